package tests

import (
	"math/rand"
	"slices"
	"testing"

	"loop.example/g00887/impl"
)

func sameTable(a, b [][]int64) bool { return slices.EqualFunc(a, b, slices.Equal[[]int64]) }

// expectedTable asks for each pair of boats once.
func expectedTable(w impl.Wind, boats []impl.Boat) [][]int64 {
	table := make([][]int64, len(boats))
	for second := range boats {
		for first := range second {
			switch expectedRuling(w, boats[first], boats[second]).Keeper {
			case 1:
				table[first] = append(table[first], int64(second))
			case 2:
				table[second] = append(table[second], int64(first))
			}
		}
	}
	for _, row := range table {
		slices.Sort(row)
	}
	return table
}

func keepClearTable(t *testing.T, w impl.Wind, boats []impl.Boat) [][]int64 {
	t.Helper()
	table, code := impl.KeepClearTable(w, boats)
	if code != impl.ErrNone {
		t.Fatalf("KeepClearTable(%v, %v): code %d", w, boats, code)
	}
	return table
}

func refuseTable(t *testing.T, w impl.Wind, boats []impl.Boat, want int64) {
	t.Helper()
	if table, code := impl.KeepClearTable(w, boats); len(table) != 0 || code != want {
		t.Fatalf("KeepClearTable(%v, %v) = %v, %d, want the code %d", w, boats, table, code, want)
	}
}

// checkTable checks the table, its rows against RuleOn, and the promise.
func checkTable(t *testing.T, w impl.Wind, boats []impl.Boat) [][]int64 {
	t.Helper()
	table := keepClearTable(t, w, boats)
	if want := expectedTable(w, boats); !sameTable(table, want) {
		t.Fatalf("KeepClearTable(%v, %v) = %v, want %v", w, boats, table, want)
	}
	for k, row := range table {
		for n := range boats {
			keeps := slices.Contains(row, int64(n))
			if keeps && slices.Contains(table[n], int64(k)) {
				t.Fatalf("of %v, both %d and %d have to keep clear: %v", boats, k, n, table)
			}
			if k != n && keeps != (ruleOn(t, w, boats[k], boats[n]).Keeper == 1) || k == n && keeps {
				t.Fatalf("of %v, %d has to keep clear of %v, which RuleOn does not say", boats, k, row)
			}
		}
		if !slices.IsSorted(row) || len(slices.Compact(slices.Clone(row))) != len(row) {
			t.Fatalf("KeepClearTable(%v, %v) = %v is not strictly increasing", w, boats, table)
		}
	}
	return table
}

// inLine are boats one behind the other, the last one ahead of all.
func inLine(n int) []impl.Boat {
	boats := []impl.Boat{}
	for k := range int64(n) {
		boats = append(boats, steady(at(60*k, 80*k, onPort)))
	}
	return boats
}

func TestKeepClearTable(t *testing.T) {
	withTurning := func(n, k int) []impl.Boat {
		boats := inLine(n)
		boats[k].Turning = true
		return boats
	}
	for _, row := range []struct {
		name  string
		boats []impl.Boat
		want  [][]int64
	}{
		{"no boat", nil, nil},
		{"an empty list", []impl.Boat{}, nil},
		{"one boat", inLine(1), [][]int64{{}}},
		{"one boat that turns", []impl.Boat{turning(onPort)}, [][]int64{{}}},
		{"two in line", inLine(2), [][]int64{{1}, {}}},
		{"two in line, exchanged", []impl.Boat{inLine(2)[1], inLine(2)[0]}, [][]int64{{}, {0}}},
		{"the same boat twice", []impl.Boat{steady(onPort), steady(onPort)}, [][]int64{{}, {}}},
		{"three in line", inLine(3), [][]int64{{1, 2}, {2}, {}}},
		{"three in line, the last one turning", withTurning(3, 2), [][]int64{{1}, {}, {0, 1}}},
		{"three in line, the middle one turning", withTurning(3, 1), [][]int64{{2}, {0, 2}, {}}},
		{"all turning", []impl.Boat{turning(onPort), turning(onStarboard), turning(at(9, 9, onPort))}, [][]int64{{}, {}, {}}},
		{"all on no tack", []impl.Boat{steady(headToWind), steady(beforeWind), steady(at(9, 9, headToWind))}, [][]int64{{}, {}, {}}},
		{"one to windward of another one, and one on starboard tack", []impl.Boat{steady(onPort), steady(at(10, -10, onPort)), steady(at(5, 0, onStarboard))}, [][]int64{{1, 2}, {2}, {}}},
		{"each of the next one, in a circle", []impl.Boat{steady(hullOf(20, 0, 1, -1, 50)), steady(hullOf(-50, -40, 1, -1, 50)), steady(hullOf(20, 10, 1, 0, 50))}, [][]int64{{1}, {2}, {0}}},
		{"all of one on starboard tack", []impl.Boat{steady(at(-7, 0, onPort)), steady(onStarboard), steady(at(7, 0, onPort))}, [][]int64{{1}, {}, {1}}},
	} {
		t.Run(row.name, func(t *testing.T) {
			table := checkTable(t, toSouth, row.boats)
			if !sameTable(table, row.want) {
				t.Errorf("KeepClearTable(%v, %v) = %v, want %v", toSouth, row.boats, table, row.want)
			}
		})
	}
	all := []int64{0, 1, 2, 3, 4, 5, 6, 7, 8, 9, 10, 11, 12, 13, 14, 15}
	for k := range all {
		others := slices.Delete(slices.Clone(all), k, k+1)
		if table := checkTable(t, toSouth, withTurning(len(all), k)); !slices.Equal(table[k], others) {
			t.Errorf("the turning boat %d has to keep clear of %v", k, table[k])
		}
	}
}

func TestTablesOfEachNumberOfBoats(t *testing.T) {
	for n := range impl.MaxBoats + 1 {
		checkTable(t, toSouth, inLine(n))
		for k, row := range keepClearTable(t, toSouth, inLine(n)) {
			if len(row) != n-1-k {
				t.Fatalf("of %d in line, the boat %d has to keep clear of %v", n, k, row)
			}
		}
	}
	for n := impl.MaxBoats + 1; n < 3*impl.MaxBoats; n++ {
		refuseTable(t, toSouth, inLine(n), impl.ErrLimit)
	}
}

// ErrLimit comes ahead of ErrInvalid.
func TestTablesOfTooManyBoats(t *testing.T) {
	for _, n := range []int{impl.MaxBoats + 1, impl.MaxBoats + 2, 2 * impl.MaxBoats, 1000} {
		for _, b := range []impl.Boat{{}, {Turning: true}, steady(onPort), steady(at(impl.MaxCoord+1, 0, onPort))} {
			for _, w := range append([]impl.Wind{toSouth, {X: -3, Y: 4}}, invalidWinds()...) {
				refuseTable(t, w, slices.Repeat([]impl.Boat{b}, n), impl.ErrLimit)
			}
		}
	}
}

// The wind counts even if there is no boat.
func TestTablesInInvalidWinds(t *testing.T) {
	for _, bad := range invalidWinds() {
		for _, boats := range [][]impl.Boat{nil, {}, inLine(1), inLine(2), inLine(impl.MaxBoats), {{}}} {
			refuseTable(t, bad, boats, impl.ErrInvalid)
		}
	}
	for _, w := range validWinds() {
		checkTable(t, w, nil)
		checkTable(t, w, inLine(3))
	}
}

func TestTablesWithInvalidHulls(t *testing.T) {
	for j, bad := range invalidHulls() {
		for _, n := range []int{1, 2, 5, impl.MaxBoats} {
			for _, k := range []int{0, n / 2, n - 1} {
				boats := inLine(n)
				boats[k] = impl.Boat{Hull: bad, Turning: j%2 == 0}
				refuseTable(t, toSouth, boats, impl.ErrInvalid)
			}
		}
	}
}

func TestRuleOnRefusesInvalidArguments(t *testing.T) {
	refuse := func(w impl.Wind, a, b impl.Boat) {
		t.Helper()
		for _, pair := range [][2]impl.Boat{{a, b}, {b, a}} {
			if r, code := impl.RuleOn(w, pair[0], pair[1]); r != (impl.Ruling{}) || code != impl.ErrInvalid {
				t.Fatalf("RuleOn(%v, %v, %v) = %v, %d, want ErrInvalid", w, pair[0], pair[1], r, code)
			}
		}
	}
	// Rules that apply before the hulls or the wind count do not save an invalid argument.
	for _, bad := range invalidHulls() {
		for _, isTurning := range []bool{false, true} {
			b := impl.Boat{Hull: bad, Turning: isTurning}
			for _, good := range []impl.Boat{steady(onPort), turning(onPort), steady(headToWind), steady(onStarboard), b} {
				for _, w := range []impl.Wind{toSouth, {X: impl.MaxWind, Y: -impl.MaxWind}, {}} {
					refuse(w, good, b)
				}
			}
		}
	}
	for _, bad := range invalidWinds() {
		for _, b := range []impl.Boat{steady(onPort), turning(onPort), steady(headToWind), turning(onStarboard), {}} {
			refuse(bad, steady(onPort), b)
			refuse(bad, turning(onPort), b)
		}
	}
	for _, h := range validHulls() {
		checkRuling(t, toSouth, steady(h), steady(onPort))
		checkRuling(t, toSouth, steady(onStarboard), steady(h))
		checkRuling(t, toSouth, turning(h), turning(onPort))
	}
	for _, w := range validWinds() {
		checkRuling(t, w, steady(onPort), steady(onStarboard))
		checkRuling(t, w, steady(onPort), turning(onPort))
	}
}

func randomBoats(random *rand.Rand, n int) []impl.Boat {
	boats := []impl.Boat{}
	limit, heading := []int64{5, 100, 1500, impl.MaxCoord}[random.Intn(4)], []int64{1, 5, maxHeading}[random.Intn(3)]
	for range n {
		boats = append(boats, randomBoat(random, limit, heading, []int64{60, impl.MaxHullLength}[random.Intn(2)]))
	}
	return boats
}

func TestNeverAreBothToldToKeepClear(t *testing.T) {
	random := rand.New(rand.NewSource(47))
	longest := 0
	for k := range 1500 {
		table := checkTable(t, randomWind(random, []int64{2, impl.MaxWind}[k%2]), randomBoats(random, random.Intn(impl.MaxBoats+1)))
		for _, row := range table {
			longest = max(longest, len(row))
		}
	}
	if longest < 10 {
		t.Errorf("no boat has to keep clear of more than %d", longest)
	}
}

// The boats are put in another order: each keeps clear of the same ones as before.
func TestTablesDoNotDependOnTheOrder(t *testing.T) {
	random := rand.New(rand.NewSource(48))
	for range 500 {
		w, boats := randomWind(random, 4), randomBoats(random, 2+random.Intn(impl.MaxBoats-1))
		table, order := keepClearTable(t, w, boats), random.Perm(len(boats))
		shuffled := make([]impl.Boat, len(boats))
		for k, place := range order {
			shuffled[place] = boats[k]
		}
		other := keepClearTable(t, w, shuffled)
		for k, row := range table {
			want := []int64{}
			for _, n := range row {
				want = append(want, int64(order[n]))
			}
			slices.Sort(want)
			if !slices.Equal(other[order[k]], want) {
				t.Fatalf("KeepClearTable(%v, %v) = %v, but of %v it is %v", w, boats, table, shuffled, other)
			}
		}
	}
}

func TestKeepClearTableKeepsItsBoats(t *testing.T) {
	random := rand.New(rand.NewSource(49))
	for n := range impl.MaxBoats + 3 {
		memory := append(randomBoats(random, n), randomBoats(random, 20)...)
		before := slices.Clone(memory)
		for _, w := range []impl.Wind{toSouth, {}} {
			impl.KeepClearTable(w, memory[:n])
		}
		if !slices.Equal(memory, before) {
			t.Fatalf("the boats %v are modified", before[:n])
		}
	}
}

// Rows that share memory with one another, or tables that do, would change here.
func TestTablesAreNew(t *testing.T) {
	boats := inLine(impl.MaxBoats)
	want := expectedTable(toSouth, boats)
	for k := range want {
		table, again := keepClearTable(t, toSouth, boats), keepClearTable(t, toSouth, boats)
		overwriteNumbers(table[k])
		table[k] = want[k]
		if !sameTable(table, want) {
			t.Fatalf("the table has changed to %v", table)
		}
		clear(table[:cap(table)])
		if !sameTable(again, want) {
			t.Fatalf("the other table has changed to %v", again)
		}
	}
}
