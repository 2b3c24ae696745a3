package tests

import (
	"math/big"
	"math/rand"
	"slices"
	"testing"

	"loop.example/g00887/impl"
)

// rootOfSquares returns the root of the square of the length, rounded down.
func rootOfSquares(x, y int64) *big.Int {
	v := bigWay(impl.Point{}, impl.Point{X: x, Y: y})
	return new(big.Int).Sqrt(v.dot(v))
}

// roundedDown returns a / b for a positive b. big.Int's Div is Euclidean, which is the floor then.
func roundedDown(a, b *big.Int) int64 { return new(big.Int).Div(a, b).Int64() }

func expectedGain(w impl.Wind, p, q impl.Point) int64 {
	dot := bigWay(p, q).dot(bigWay(impl.Point{}, impl.Point(w)))
	return roundedDown(dot.Neg(dot), rootOfSquares(w.X, w.Y))
}

func windwardGain(t *testing.T, w impl.Wind, p, q impl.Point) int64 {
	t.Helper()
	n, code := impl.WindwardGain(w, p, q)
	if code != impl.ErrNone {
		t.Fatalf("WindwardGain(%v, %v, %v): code %d", w, p, q, code)
	}
	return n
}

func TestWindwardGain(t *testing.T) {
	const m = impl.MaxCoord
	south, slant, diagonal := impl.Wind{Y: -10}, impl.Wind{X: 3, Y: 4}, impl.Wind{X: 1000, Y: 1000}
	for _, row := range []struct {
		name string
		w    impl.Wind
		p, q impl.Point
		want int64
	}{
		{"straight against the wind", south, impl.Point{}, impl.Point{Y: 30}, 30},
		{"straight with the wind", south, impl.Point{}, impl.Point{Y: -30}, -30},
		{"across the wind", south, impl.Point{X: 2, Y: 9}, impl.Point{X: 50, Y: 9}, 0},
		{"aslant", south, impl.Point{}, impl.Point{X: 7, Y: 30}, 30},
		{"not from the origin", south, impl.Point{X: -4, Y: 11}, impl.Point{X: 7, Y: 30}, 19},
		{"to itself", slant, impl.Point{X: 8, Y: -3}, impl.Point{X: 8, Y: -3}, 0},
		{"a whole distance against the wind", slant, impl.Point{}, impl.Point{X: -3, Y: -4}, 5},
		{"a whole distance with the wind", slant, impl.Point{X: -3, Y: -4}, impl.Point{}, -5},
		{"3/5", slant, impl.Point{}, impl.Point{X: -1}, 0},
		{"-3/5", slant, impl.Point{}, impl.Point{X: 1}, -1},
		{"1/5", slant, impl.Point{}, impl.Point{X: 1, Y: -1}, 0},
		{"-1/5", slant, impl.Point{}, impl.Point{X: -1, Y: 1}, -1},
		{"6/5", slant, impl.Point{X: 2, Y: 1}, impl.Point{Y: 1}, 1},
		{"-6/5", slant, impl.Point{Y: 1}, impl.Point{X: 2, Y: 1}, -2},
		{"across a slanting wind", slant, impl.Point{}, impl.Point{X: 4, Y: -3}, 0},
		{"by the root of 2, rounded down to 1", impl.Wind{X: 1, Y: 1}, impl.Point{}, impl.Point{X: -5, Y: -5}, 10},
		{"by the root of 2000000, rounded down to 1414", diagonal, impl.Point{}, impl.Point{X: -707, Y: -707}, 1000},
		{"just not one farther", diagonal, impl.Point{}, impl.Point{X: -706, Y: -707}, 999},
		{"1000/1414", diagonal, impl.Point{}, impl.Point{Y: -1}, 0},
		{"-1000/1414", diagonal, impl.Point{}, impl.Point{Y: 1}, -1},
		{"-2000/1414", diagonal, impl.Point{}, impl.Point{X: 1, Y: 1}, -2},
		{"farthest in the weakest wind", impl.Wind{X: -1, Y: -1}, impl.Point{X: -m, Y: -m}, impl.Point{X: m, Y: m}, 4 * m},
		{"farthest with the weakest wind", impl.Wind{X: 1, Y: 1}, impl.Point{X: -m, Y: -m}, impl.Point{X: m, Y: m}, -4 * m},
		{"farthest in the strongest wind", diagonal, impl.Point{X: m, Y: m}, impl.Point{X: -m, Y: -m}, 2828854},
		{"farthest with the strongest wind", diagonal, impl.Point{X: -m, Y: -m}, impl.Point{X: m, Y: m}, -2828855},
		{"farthest along an axis", impl.Wind{X: -1000}, impl.Point{X: -m, Y: m}, impl.Point{X: m, Y: m}, 2 * m},
	} {
		if n := windwardGain(t, row.w, row.p, row.q); n != row.want {
			t.Errorf("%s: WindwardGain(%v, %v, %v) = %d, want %d", row.name, row.w, row.p, row.q, n, row.want)
		}
		if n := expectedGain(row.w, row.p, row.q); n != row.want {
			t.Errorf("%s: the tests expect %d of %v, %v, %v", row.name, n, row.w, row.p, row.q)
		}
	}
}

// checkGains checks the gain there and back: both are rounded down.
func checkGains(t *testing.T, w impl.Wind, p, q impl.Point) {
	t.Helper()
	there, back := windwardGain(t, w, p, q), windwardGain(t, w, q, p)
	if there != expectedGain(w, p, q) || back != expectedGain(w, q, p) {
		t.Fatalf("WindwardGain of %v, %v, %v is %d, and back %d", w, p, q, there, back)
	}
	if sum := there + back; sum != 0 && sum != -1 {
		t.Fatalf("in the wind %v, there and back between %v and %v is %d", w, p, q, sum)
	}
}

func TestGainsThereAndBack(t *testing.T) {
	points := validPoints()
	for _, w := range validWinds() {
		for _, p := range points[:20] {
			for _, q := range points {
				checkGains(t, w, p, q)
			}
			if n := windwardGain(t, w, p, p); n != 0 {
				t.Fatalf("WindwardGain(%v, %v, %v) = %d", w, p, p, n)
			}
		}
	}
	random := rand.New(rand.NewSource(22))
	for range 20000 {
		checkGains(t, randomWind(random, impl.MaxWind), randomPoint(random, impl.MaxCoord), randomPoint(random, impl.MaxCoord))
	}
}

func refuseGain(t *testing.T, w impl.Wind, p, q impl.Point) {
	t.Helper()
	if n, code := impl.WindwardGain(w, p, q); n != 0 || code != impl.ErrInvalid {
		t.Fatalf("WindwardGain(%v, %v, %v) = %d, %d, want 0 and ErrInvalid", w, p, q, n, code)
	}
}

func TestGainsOfInvalidArguments(t *testing.T) {
	good := []impl.Point{{}, {X: 3, Y: -4}, {X: impl.MaxCoord, Y: -impl.MaxCoord}}
	for _, bad := range invalidWinds() {
		for _, p := range good {
			refuseGain(t, bad, p, p)
			refuseGain(t, bad, p, good[0])
		}
		refuseGain(t, bad, impl.Point{X: impl.MaxCoord + 1}, good[1])
	}
	for _, bad := range invalidPoints() {
		for _, w := range []impl.Wind{toSouth, {X: impl.MaxWind, Y: -impl.MaxWind}} {
			for _, p := range good {
				refuseGain(t, w, bad, p)
				refuseGain(t, w, p, bad)
			}
			refuseGain(t, w, bad, bad)
		}
	}
}

func checkWindwardBoat(t *testing.T, w impl.Wind, positions []impl.Point, want int64) {
	t.Helper()
	if k, code := impl.WindwardBoat(w, positions); code != impl.ErrNone || k != want {
		t.Fatalf("WindwardBoat(%v, %v) = %d, %d, want %d", w, positions, k, code, want)
	}
}

func refuseBoats(t *testing.T, w impl.Wind, positions []impl.Point, want int64) {
	t.Helper()
	if k, code := impl.WindwardBoat(w, positions); k != 0 || code != want {
		t.Fatalf("WindwardBoat(%v, %v) = %d, %d, want the code %d", w, positions, k, code, want)
	}
}

// expectedBoat is the smallest number with the smallest product, as the document says it.
func expectedBoat(w impl.Wind, positions []impl.Point) int64 {
	dots := []*big.Int{}
	for _, p := range positions {
		_, d := products(w, p)
		dots = append(dots, d)
	}
	smallest := slices.MinFunc(dots, (*big.Int).Cmp)
	return int64(slices.IndexFunc(dots, func(d *big.Int) bool { return d.Cmp(smallest) == 0 }))
}

func TestWindwardBoat(t *testing.T) {
	const m = impl.MaxCoord
	slant := impl.Wind{X: 3, Y: 4}
	for _, row := range []struct {
		name      string
		w         impl.Wind
		positions []impl.Point
		want      int64
	}{
		{"alone", toSouth, []impl.Point{{X: 5, Y: -9}}, 0},
		{"alone at the origin", slant, []impl.Point{{}}, 0},
		{"farther to the north", toSouth, []impl.Point{{Y: 1}, {Y: 3}, {Y: 2}}, 1},
		{"two equally far", toSouth, []impl.Point{{Y: 1}, {X: 4, Y: 3}, {Y: 3}}, 1},
		{"the first and the last equally far", toSouth, []impl.Point{{X: 9, Y: 3}, {Y: 1}, {Y: 3}}, 0},
		{"all equally far", toSouth, []impl.Point{{X: 2, Y: -5}, {X: 9, Y: -5}, {X: -9, Y: -5}, {X: 2, Y: -5}}, 0},
		{"the last one", toSouth, []impl.Point{{Y: -3}, {Y: -2}, {Y: -1}}, 2},
		{"the last one, behind an equal pair", toSouth, []impl.Point{{Y: -3}, {Y: -3}, {Y: -1}}, 2},
		{"the wind toward the north", toNorth, []impl.Point{{Y: 1}, {Y: 3}, {Y: -2}}, 2},
		{"the wind toward the east", toEast, []impl.Point{{X: 1}, {X: -3}, {X: -3, Y: 50}}, 1},
		{"the wind toward the west", toWest, []impl.Point{{X: 1}, {X: -3}, {X: 3, Y: 50}}, 2},
		{"equally far in a slanting wind", slant, []impl.Point{{}, {X: 4, Y: -3}, {X: -4, Y: 3}}, 0},
		{"farther by 1/5 only", slant, []impl.Point{{}, {X: 4, Y: -3}, {X: 1, Y: -1}, {X: -4, Y: 3}}, 2},
		{"less far by 1/5 only", slant, []impl.Point{{X: -1, Y: 1}, {X: 4, Y: -3}, {X: -4, Y: 3}}, 1},
		{"corners", impl.Wind{X: -1000, Y: 1000}, []impl.Point{{X: -m, Y: m}, {X: m, Y: 1 - m}, {X: m, Y: -m}, {X: m - 1, Y: -m}, {X: m, Y: -m}}, 2},
		{"opposite corners", impl.Wind{X: 1000, Y: 1000}, []impl.Point{{X: m, Y: m}, {X: -m, Y: -m}}, 1},
		{"corners equally far", impl.Wind{X: 999, Y: 999}, []impl.Point{{X: m, Y: m}, {X: -m, Y: m}, {X: m, Y: -m}}, 1},
	} {
		t.Run(row.name, func(t *testing.T) {
			checkWindwardBoat(t, row.w, row.positions, row.want)
			if k := expectedBoat(row.w, row.positions); k != row.want {
				t.Errorf("the tests expect %d", k)
			}
		})
	}
}

func TestWindwardBoatOfTheGreatestNumber(t *testing.T) {
	for n := 1; n <= impl.MaxBoats; n++ {
		checkWindwardBoat(t, toSouth, slices.Repeat([]impl.Point{{X: 3, Y: 4}}, n), 0)
		for first := range n {
			positions := slices.Repeat([]impl.Point{{X: 3, Y: 4}}, n)
			positions[first].Y = 5
			checkWindwardBoat(t, toSouth, positions, int64(first))
			positions[n-1].Y = 5
			checkWindwardBoat(t, toSouth, positions, int64(first))
			positions[first].X = -77
			checkWindwardBoat(t, toSouth, positions, int64(first))
		}
	}
}

// Nobody is to windward of the boat that is farthest.
func TestRandomWindwardBoats(t *testing.T) {
	random := rand.New(rand.NewSource(23))
	for k := range 5000 {
		w, positions := randomWind(random, []int64{2, impl.MaxWind}[k%2]), []impl.Point{}
		for range 1 + random.Intn(impl.MaxBoats) {
			positions = append(positions, randomPoint(random, []int64{3, impl.MaxCoord}[k/2%2]))
		}
		farthest := expectedBoat(w, positions)
		checkWindwardBoat(t, w, positions, farthest)
		for _, p := range positions {
			if gain := windwardGain(t, w, positions[farthest], p); gain > 0 {
				t.Fatalf("in the wind %v, %v is %d to windward of the boat %d of %v", w, p, gain, farthest, positions)
			}
		}
	}
}

func TestWindwardBoatErrors(t *testing.T) {
	good := impl.Point{X: 3, Y: -4}
	for _, w := range validWinds() {
		for _, none := range [][]impl.Point{nil, {}, make([]impl.Point, 0, 3)} {
			refuseBoats(t, w, none, impl.ErrNotFound)
		}
	}
	for _, bad := range invalidWinds() {
		for _, n := range []int{0, 1, 3, impl.MaxBoats} {
			refuseBoats(t, bad, slices.Repeat([]impl.Point{good}, n), impl.ErrInvalid)
		}
		refuseBoats(t, bad, []impl.Point{good, {X: impl.MaxCoord + 1}}, impl.ErrInvalid)
	}
	for _, bad := range invalidPoints() {
		for _, n := range []int{1, 2, 5, impl.MaxBoats} {
			for _, k := range []int{0, n / 2, n - 1} {
				positions := slices.Repeat([]impl.Point{good}, n)
				positions[k] = bad
				refuseBoats(t, toSouth, positions, impl.ErrInvalid)
			}
		}
	}
}

// The number of positions counts ahead of all else.
func TestTooManyPositions(t *testing.T) {
	for _, p := range []impl.Point{{}, {X: 3, Y: -4}, {X: impl.MaxCoord + 1}, {Y: extremes[0]}} {
		for _, n := range []int{impl.MaxBoats + 1, impl.MaxBoats + 2, 2 * impl.MaxBoats, 500} {
			for _, w := range append([]impl.Wind{toSouth, {X: -3, Y: 4}}, invalidWinds()...) {
				refuseBoats(t, w, slices.Repeat([]impl.Point{p}, n), impl.ErrLimit)
			}
		}
	}
}
