package tests

import (
	"math/rand"
	"runtime"
	"slices"
	"sync"
	"testing"

	"loop.example/g00887/impl"
)

// expectedRoomTable asks for each pair of tracks once.
func expectedRoomTable(w impl.Wind, m impl.Mark, tracks []impl.Track, length int64) [][]int64 {
	table := make([][]int64, len(tracks))
	for second := range tracks {
		for first := range second {
			switch expectedRoomAt(w, m, tracks[first], tracks[second], length).Giver {
			case 1:
				table[first] = append(table[first], int64(second))
			case 2:
				table[second] = append(table[second], int64(first))
			}
		}
	}
	for _, row := range table {
		slices.Sort(row)
	}
	return table
}

func roomTable(t *testing.T, w impl.Wind, c impl.Course, k int, tracks []impl.Track, length int64) [][]int64 {
	t.Helper()
	table, code := impl.RoomTable(w, c, int64(k), tracks, length)
	if code != impl.ErrNone {
		t.Fatalf("RoomTable(%v, %v, %d, %v, %d): code %d", w, c, k, tracks, length, code)
	}
	return table
}

func refuseRoomTable(t *testing.T, w impl.Wind, c impl.Course, k int64, tracks []impl.Track, length, want int64) {
	t.Helper()
	if table, code := impl.RoomTable(w, c, k, tracks, length); len(table) != 0 || code != want {
		t.Fatalf("RoomTable(%v, %v, %d, %v, %d) = %v, %d, want the code %d", w, c, k, tracks, length, table, code, want)
	}
}

// checkRoomTable checks the table, its rows against RoomAt, and the promise.
func checkRoomTable(t *testing.T, w impl.Wind, c impl.Course, k int, tracks []impl.Track, length int64) [][]int64 {
	t.Helper()
	table := roomTable(t, w, c, k, tracks, length)
	if want := expectedRoomTable(w, c.Marks[k], tracks, length); !sameTable(table, want) {
		t.Fatalf("RoomTable(%v, %v, %d, %v, %d) = %v, want %v", w, c, k, tracks, length, table, want)
	}
	for first, row := range table {
		for second := range tracks {
			gives := slices.Contains(row, int64(second))
			if gives && slices.Contains(table[second], int64(first)) {
				t.Fatalf("of %v, both %d and %d have to give room: %v", tracks, first, second, table)
			}
			if gives != (first != second && roomAt(t, w, c, k, tracks[first], tracks[second], length).Giver == 1) {
				t.Fatalf("of %v, %d has to give room to %v, which RoomAt does not say", tracks, first, row)
			}
		}
		if !slices.IsSorted(row) || len(slices.Compact(slices.Clone(row))) != len(row) {
			t.Fatalf("RoomTable(%v, %v, %d, %v, %d) = %v is not strictly increasing", w, c, k, tracks, length, table)
		}
	}
	return table
}

// sailingInLine are tracks to the north past the mark at {0, 0}, each 40 decimetres astern of the one
// before it, with one leg at the same times.
func sailingInLine(n int) []impl.Track {
	tracks := []impl.Track{}
	for k := range int64(n) {
		tracks = append(tracks, trackOf(0, 0, -40*k, 1000, 0, 5000))
	}
	return tracks
}

// sailingAbreast are tracks to the north, the first one nearest to the mark at {0, 0}.
func sailingAbreast(n int) []impl.Track {
	tracks := []impl.Track{}
	for k := range int64(n) {
		tracks = append(tracks, northward(k, 0))
	}
	return tracks
}

func upTo(n int) []int64 {
	numbers := []int64{}
	for k := range int64(n) {
		numbers = append(numbers, k)
	}
	return numbers
}

func TestRoomTable(t *testing.T) {
	line, abreast := sailingInLine(4), sailingAbreast(4)
	away, still := northward(-400, 0), stay(impl.Point{})
	for _, row := range []struct {
		name   string
		tracks []impl.Track
		want   [][]int64
	}{
		{"no track", nil, nil},
		{"an empty list", []impl.Track{}, nil},
		{"one track", line[:1], [][]int64{{}}},
		{"one track that does not come", []impl.Track{away}, [][]int64{{}}},
		{"the same track twice", []impl.Track{line[0], line[0]}, [][]int64{{}, {}}},
		{"two in line", line[:2], [][]int64{{}, {0}}},
		{"two in line, exchanged", []impl.Track{line[1], line[0]}, [][]int64{{1}, {}}},
		{"three in line", line[:3], [][]int64{{}, {0}, {0, 1}}},
		{"four in line, in another order", []impl.Track{line[2], line[0], line[3], line[1]}, [][]int64{{1, 3}, {}, {0, 1, 3}, {1}}},
		{"four abreast", abreast, [][]int64{{}, {0}, {0, 1}, {0, 1, 2}}},
		{"four abreast, in another order", []impl.Track{abreast[2], abreast[0], abreast[3], abreast[1]}, [][]int64{{1, 3}, {}, {0, 1, 3}, {1}}},
		{"on both sides of the mark", []impl.Track{northward(7, 0), northward(-7, 0), northward(7, 0)}, [][]int64{{}, {}, {}}},
		{"one in the middle, one outside", []impl.Track{northward(9, 0), northward(-8, 0), northward(9, 0)}, [][]int64{{1}, {}, {1}}},
		{"none comes", []impl.Track{away, away, northward(300, 0)}, [][]int64{{}, {}, {}}},
		{"one of them comes, the others are outside", []impl.Track{away, northward(300, 0), northward(6, 0)}, [][]int64{{2}, {2}, {}}},
		{"one has no hull", []impl.Track{abreast[1], still, abreast[3]}, [][]int64{{}, {}, {0}}},
		{"one comes later", []impl.Track{abreast[1], later(abreast[0], 1), abreast[3]}, [][]int64{{}, {}, {0}}},
	} {
		t.Run(row.name, func(t *testing.T) {
			if table := checkRoomTable(t, toNorth, zoneCourse(0, 0, 20), 0, row.tracks, 30); !sameTable(table, row.want) {
				t.Errorf("RoomTable(%v, .., %v, 30) = %v, want %v", toNorth, row.tracks, table, row.want)
			}
		})
	}
}

// A boat may give room to the next one, this one to a third one, and that one to the first one.
func TestRoomInACircle(t *testing.T) {
	random := rand.New(rand.NewSource(57))
	for range 20000 {
		tracks := []impl.Track{}
		for range 3 {
			from, to := randomPoint(random, 60), randomPoint(random, 60)
			tracks = append(tracks, trackOf(0, from.X, from.Y, 10, to.X, to.Y))
		}
		if sameTable(expectedRoomTable(toSouth, zoneCourse(0, 0, 50).Marks[0], tracks, 15), [][]int64{{1}, {2}, {0}}) {
			checkRoomTable(t, toSouth, zoneCourse(0, 0, 50), 0, tracks, 15)
			return
		}
	}
	t.Error("no three boats are in a circle")
}

func TestRoomTablesOfEachNumberOfTracks(t *testing.T) {
	c := zoneCourse(0, 0, 20)
	for n := range impl.MaxBoats + 1 {
		for _, tracks := range [][]impl.Track{sailingInLine(n), sailingAbreast(n)} {
			table := checkRoomTable(t, toNorth, c, 0, tracks, 30)
			if len(table) != n {
				t.Fatalf("the table of %d tracks has %d rows", n, len(table))
			}
			for k, row := range table {
				if !slices.Equal(row, upTo(k)) {
					t.Fatalf("of %d tracks, the boat %d has to give room to %v", n, k, row)
				}
			}
			slices.Reverse(tracks)
			for k, row := range checkRoomTable(t, toNorth, c, 0, tracks, 30) {
				if !slices.Equal(row, upTo(n)[k+1:]) {
					t.Fatalf("of %d tracks in the other order, the boat %d has to give room to %v", n, k, row)
				}
			}
		}
	}
	for n := impl.MaxBoats + 1; n < 3*impl.MaxBoats; n++ {
		refuseRoomTable(t, toNorth, c, 0, sailingInLine(n), 30, impl.ErrLimit)
	}
}

// All but one of the boats have to give room to this one, and to none else.
func TestRoomToOneOfTheGreatestNumber(t *testing.T) {
	for k := range impl.MaxBoats {
		tracks := slices.Repeat([]impl.Track{northward(15, 0)}, impl.MaxBoats)
		tracks[k] = northward(14, 0)
		for n, row := range checkRoomTable(t, toNorth, zoneCourse(0, 0, 20), 0, tracks, 30) {
			if n == k && len(row) != 0 || n != k && !slices.Equal(row, []int64{int64(k)}) {
				t.Fatalf("the boat %d has to give room to %v", n, row)
			}
		}
		tracks[k] = northward(16, 0)
		for n, row := range checkRoomTable(t, toNorth, zoneCourse(0, 0, 20), 0, tracks, 30) {
			if n != k && len(row) != 0 || n == k && !slices.Equal(row, slices.Concat(upTo(k), upTo(impl.MaxBoats)[k+1:])) {
				t.Fatalf("the boat %d has to give room to %v", n, row)
			}
		}
	}
}

func randomFleet(random *rand.Rand, n int) []impl.Track {
	tracks := []impl.Track{}
	for range n {
		tracks = append(tracks, randomTrack(random))
	}
	return tracks
}

func TestNeverDoBothHaveToGiveRoom(t *testing.T) {
	random := rand.New(rand.NewSource(58))
	longest := 0
	for k := range 150 {
		w, c := randomWind(random, []int64{2, impl.MaxWind}[k%2]), zoneCourseAt(random)
		table := checkRoomTable(t, w, c, 0, randomFleet(random, random.Intn(impl.MaxBoats+1)), 1+random.Int63n(20))
		for _, row := range table {
			longest = max(longest, len(row))
		}
	}
	if longest < 8 {
		t.Errorf("no boat has to give room to more than %d", longest)
	}
}

// The tracks are put in another order: each boat gives room to the same ones as before.
func TestRoomTablesDoNotDependOnTheOrder(t *testing.T) {
	random := rand.New(rand.NewSource(59))
	for range 100 {
		w, c, tracks := randomWind(random, 4), zoneCourseAt(random), randomFleet(random, 2+random.Intn(impl.MaxBoats-1))
		table, order := roomTable(t, w, c, 0, tracks, 9), random.Perm(len(tracks))
		shuffled := make([]impl.Track, len(tracks))
		for k, place := range order {
			shuffled[place] = tracks[k]
		}
		other := roomTable(t, w, c, 0, shuffled, 9)
		for k, row := range table {
			want := []int64{}
			for _, n := range row {
				want = append(want, int64(order[n]))
			}
			slices.Sort(want)
			if !slices.Equal(other[order[k]], want) {
				t.Fatalf("RoomTable(%v, %v, 0, %v, 9) = %v, but of %v it is %v", w, c, tracks, table, shuffled, other)
			}
		}
	}
}

// The rows are computed at the same time: the table must not change with the order in which they
// are, with the number of processors, or while other tables of the same tracks are made.
func TestRoomTablesDoNotDependOnTheirWorkers(t *testing.T) {
	c, tracks := zoneCourse(0, 0, 20), append(sailingInLine(impl.MaxBoats/2), sailingAbreast(impl.MaxBoats/2)...)
	want := expectedRoomTable(toNorth, c.Marks[0], tracks, 30)
	defer runtime.GOMAXPROCS(runtime.GOMAXPROCS(0))
	for _, processors := range []int{1, 2, 8} {
		runtime.GOMAXPROCS(processors)
		var callers sync.WaitGroup
		for range 4 {
			callers.Go(func() {
				for range 50 {
					if table, code := impl.RoomTable(toNorth, c, 0, tracks, 30); code != impl.ErrNone || !sameTable(table, want) {
						t.Errorf("RoomTable = %v, %d, want %v", table, code, want)
						return
					}
				}
			})
		}
		callers.Wait()
	}
}

// ErrLimit comes ahead of all others.
func TestRoomTablesOfTooManyTracks(t *testing.T) {
	for _, n := range []int{impl.MaxBoats + 1, impl.MaxBoats + 2, 2 * impl.MaxBoats, 500} {
		for _, track := range []impl.Track{northward(5, 0), {}, trackOf(5, 0, 0, 5, 1, 1)} {
			tracks := slices.Repeat([]impl.Track{track}, n)
			for _, w := range []impl.Wind{toNorth, {}, {X: impl.MaxWind + 1}} {
				for _, c := range append([]impl.Course{zoneCourse(0, 0, 5), {}}, invalidCourses()[:9]...) {
					for _, k := range append([]int64{0, 1, -1}, extremes...) {
						for _, length := range []int64{30, 0, impl.MaxHullLength + 1} {
							refuseRoomTable(t, w, c, k, tracks, length, impl.ErrLimit)
						}
					}
				}
			}
		}
	}
}

// Rows that share memory with one another, or tables that do, would change here.
func TestRoomTablesAreNew(t *testing.T) {
	c, tracks := zoneCourse(0, 0, 20), sailingInLine(impl.MaxBoats)
	want := expectedRoomTable(toNorth, c.Marks[0], tracks, 30)
	for k := range want {
		table, again := roomTable(t, toNorth, c, 0, tracks, 30), roomTable(t, toNorth, c, 0, tracks, 30)
		overwriteNumbers(table[k])
		table[k] = want[k]
		if !sameTable(table, want) {
			t.Fatalf("the table has changed to %v", table)
		}
		clear(table[:cap(table)])
		if !sameTable(again, want) {
			t.Fatalf("the other table has changed to %v", again)
		}
	}
}
