package tests

import (
	"math/big"
	"math/rand"
	"testing"

	"loop.example/g00887/impl"
)

var badReaches = append([]int64{-1, -10000, 10001, 20000, 1 << 32}, extremes...)

// expectedAxis leads from the stern to the bow; it need not be a valid segment.
func expectedAxis(h impl.Hull) impl.Segment { return impl.Segment{A: expectedStern(h), B: h.Bow} }

// squareGap is the square of the distance of two hulls, or nil if they have a common point.
func squareGap(a, b impl.Hull) *big.Rat {
	s, u := expectedAxis(a), expectedAxis(b)
	if solvePair(s, u).meet {
		return nil
	}
	smallest := squareDistanceAt(s, expectedNearest(s, u.A), u.A)
	for _, pair := range []struct {
		s impl.Segment
		p impl.Point
	}{{s, u.B}, {u, s.A}, {u, s.B}} {
		if square := squareDistanceAt(pair.s, expectedNearest(pair.s, pair.p), pair.p); square.Cmp(smallest) < 0 {
			smallest = square
		}
	}
	return smallest
}

func hullsNear(t *testing.T, a, b impl.Hull, distance int64) bool {
	t.Helper()
	is, code := impl.HullsNear(a, b, distance)
	if code != impl.ErrNone {
		t.Fatalf("HullsNear(%v, %v, %d): code %d", a, b, distance, code)
	}
	return is
}

func checkBothOrders(t *testing.T, a, b impl.Hull, distance int64, want bool) {
	t.Helper()
	if hullsNear(t, a, b, distance) != want {
		t.Fatalf("HullsNear(%v, %v, %d) is not %v", a, b, distance, want)
	}
	if hullsNear(t, b, a, distance) != want {
		t.Fatalf("exchanged, HullsNear(%v, %v, %d) is not %v", b, a, distance, want)
	}
}

// leastReach is the least distance at which two hulls are near.
func leastReach(a, b impl.Hull) int64 {
	square := squareGap(a, b)
	if square == nil {
		return 0
	}
	whole := new(big.Int).Div(square.Num(), square.Denom())
	root := whole.Sqrt(whole).Int64()
	if square.Cmp(big.NewRat(root*root, 1)) > 0 {
		return root + 1
	}
	return root
}

// checkNear checks a pair at its least distance, one below and one above it, and at the limits.
func checkNear(t *testing.T, a, b impl.Hull) int64 {
	t.Helper()
	least := leastReach(a, b)
	for _, distance := range []int64{0, least - 1, least, least + 1, 9999, 10000} {
		if 0 <= distance && distance <= 10000 {
			checkBothOrders(t, a, b, distance, distance >= least)
		}
	}
	return least
}

func TestHullsNear(t *testing.T) {
	const m = impl.MaxCoord
	north := hullOf(0, 0, 0, 1, 50)
	for _, row := range []struct {
		name  string
		a, b  impl.Hull
		least int64
	}{
		{"itself", north, north, 0},
		{"crossing", north, hullOf(10, -20, 1, 0, 50), 0},
		{"crossing aslant", north, hullOf(15, -10, 3, 4, 50), 0},
		{"a bow on the side", north, hullOf(0, -20, 1, 0, 50), 0},
		{"a stern on the side", north, hullOf(50, -20, 1, 0, 50), 0},
		{"a common bow", north, hullOf(0, 0, 1, 0, 50), 0},
		{"a bow at the stern", north, hullOf(0, -50, -1, 0, 7), 0},
		{"in one line, overlapping", north, hullOf(0, 20, 0, 1, 50), 0},
		{"in one line, one within the other one", north, hullOf(0, -10, 0, 1, 20), 0},
		{"in one line, opposite", north, hullOf(0, -60, 0, -1, 50), 0},
		{"in one line, end to end", north, hullOf(0, -50, 0, 1, 50), 0},
		{"in one line, one apart", north, hullOf(0, -51, 0, 1, 50), 1},
		{"in one line, 10000 apart", north, hullOf(0, -10050, 0, 1, 50), 10000},
		{"in one line, 10001 apart", north, hullOf(0, -10051, 0, 1, 50), 10001},
		{"in one line, ahead", north, hullOf(0, 75, 0, 1, 50), 25},
		{"beside it", north, hullOf(10, -20, 0, 1, 50), 10},
		{"beside it to the west", north, hullOf(-10, 0, 0, 1, 50), 10},
		{"10000 beside it", north, hullOf(10000, -20, 0, 1, 50), 10000},
		{"10001 beside it", north, hullOf(-10001, -20, 0, 1, 50), 10001},
		{"the bow of b near the side", north, hullOf(-9, -25, 1, 0, 50), 9},
		{"the stern of b near the side", north, hullOf(59, -25, 1, 0, 50), 9},
		{"the bow of a near the side", north, hullOf(25, 9, 1, 0, 50), 9},
		{"the stern of a near the side", north, hullOf(25, -59, 1, 0, 50), 9},
		{"bow to bow, aslant", north, hullOf(3, 4, 0, -1, 50), 5},
		{"bow to bow, by the root of 2", north, hullOf(1, 1, 0, -1, 50), 2},
		{"stern to stern, aslant", north, hullOf(12, -55, 0, -1, 50), 12},
		{"stern to bow, aslant", north, hullOf(5, -62, 0, 1, 50), 13},
		{"the bow of b near a slanting side", hullOf(0, 0, 4, -3, 1000), hullOf(-397, 304, 0, -1, 1000), 5},
		{"the bow of b less than 1 beside the side", hullOf(0, 0, maxHeading, 1, 1000), hullOf(-500, 1, 0, -1, 1000), 1},
		{"short hulls", hullOf(5, 5, 1, 0, 1), hullOf(7, 5, 1, 0, 1), 1},
		{"far away", hullOf(m, m, 1, 1, 1000), hullOf(-m, -m, -1, -1, 1000), 2825599},
		{"corners of the area", hullOf(m, m, 0, 1, 1000), hullOf(m-6, m-8, 1, 0, 700), 6},
	} {
		t.Run(row.name, func(t *testing.T) {
			if least := checkNear(t, row.a, row.b); least != row.least {
				t.Errorf("the least distance is %d, want %d", least, row.least)
			}
			for distance := max(row.least-2, 0); distance <= min(row.least+2, 10000); distance++ {
				checkBothOrders(t, row.a, row.b, distance, distance >= row.least)
			}
		})
	}
}

// hasAxis tells whether the stern of a hull is a valid point and not its bow.
func hasAxis(h impl.Hull) bool {
	stern := expectedStern(h)
	limit := func(n int64) bool { return -impl.MaxCoord <= n && n <= impl.MaxCoord }
	return limit(stern.X) && limit(stern.Y) && stern != h.Bow
}

func withAxis(hulls []impl.Hull) []impl.Hull {
	list := []impl.Hull{}
	for _, h := range hulls {
		if hasAxis(h) {
			list = append(list, h)
		}
	}
	return list
}

func TestAHullIsNearToItself(t *testing.T) {
	for _, h := range withAxis(validHulls()) {
		for _, distance := range []int64{0, 1, 10000} {
			checkBothOrders(t, h, h, distance, true)
		}
	}
}

func TestNearHullsOfAllPairs(t *testing.T) {
	hulls := withAxis(someHullsOf(2, 40, impl.MaxHullLength))
	for k, a := range hulls {
		for _, b := range hulls[:k+1] {
			checkNear(t, a, b)
		}
	}
}

func TestNearHullsOfRandomPairs(t *testing.T) {
	counts := map[bool]int{}
	random := rand.New(rand.NewSource(39))
	for k := range 15000 {
		limit, length := []int64{4, 30, 1000, 9000, impl.MaxCoord}[k%5], []int64{5, 40, impl.MaxHullLength}[k%3]
		heading := []int64{1, 5, maxHeading}[k/3%3]
		a, b := randomHull(random, limit, heading, length), randomHull(random, limit, heading, length)
		if hasAxis(a) && hasAxis(b) {
			least := checkNear(t, a, b)
			counts[least == 0]++
			counts[least <= 10000]++
		}
	}
	if counts[true] < 5000 || counts[false] < 5000 {
		t.Errorf("pairs: %v", counts)
	}
}

// Two hulls near to each other at the limits of the area, where all numbers are great.
func TestNearHullsAtTheCorners(t *testing.T) {
	random := rand.New(rand.NewSource(40))
	for k := range 4000 {
		way := func(bow impl.Point) impl.Point {
			corner := impl.Point{X: impl.MaxCoord, Y: impl.MaxCoord}
			if k&1 != 0 {
				corner.X, bow.X = -corner.X, -bow.X
			}
			if k&2 != 0 {
				corner.Y, bow.Y = -corner.Y, -bow.Y
			}
			return minus(corner, bow)
		}
		a, b := randomHull(random, 1, maxHeading, 1000), randomHull(random, 1, maxHeading, 1000)
		a.Bow = way(impl.Point{X: random.Int63n(2000), Y: random.Int63n(2000)})
		b.Bow = way(impl.Point{X: random.Int63n(12000), Y: random.Int63n(2000)})
		if hasAxis(a) && hasAxis(b) {
			checkNear(t, a, b)
		}
	}
}

func refuseNear(t *testing.T, a, b impl.Hull, distance, want int64) {
	t.Helper()
	for _, pair := range [][2]impl.Hull{{a, b}, {b, a}} {
		if is, code := impl.HullsNear(pair[0], pair[1], distance); is || code != want {
			t.Fatalf("HullsNear(%v, %v, %d) = %v, %d, want the code %d", pair[0], pair[1], distance, is, code, want)
		}
	}
}

func TestDistancesOutOfRange(t *testing.T) {
	a, b := hullOf(0, 0, 0, 1, 50), hullOf(10, -20, 0, 1, 50)
	for _, bad := range badReaches {
		refuseNear(t, a, a, bad, impl.ErrRange)
		refuseNear(t, a, b, bad, impl.ErrRange)
		refuseNear(t, a, hullOf(900000, 0, 1, 0, 50), bad, impl.ErrRange)
	}
	for distance, want := range map[int64]bool{0: false, 9: false, 10: true, 9999: true, 10000: true} {
		checkBothOrders(t, a, b, distance, want)
	}
}

func TestSternsOutOfRange(t *testing.T) {
	const m = impl.MaxCoord
	good := []impl.Hull{hullOf(0, 0, 0, 1, 50), hullOf(m, m, 1, 1, 1000), hullOf(-m, -m, -1, -1, 1000)}
	for _, bad := range []impl.Hull{
		// Just beyond the area.
		hullOf(m, 0, -1, 0, 1), hullOf(-m, 0, 1, 0, 1), hullOf(0, m, 0, -1, 1), hullOf(0, -m, 0, 1, 1), hullOf(m-49, m, -1, 0, 50), hullOf(5, 999-m, 0, 1, 1000),
		// By a quotient of -3/5 that is rounded down.
		hullOf(m, 0, -3, 4, 1), hullOf(0, m, 4, -3, 1),
		// Far beyond a corner.
		hullOf(m, m, -1, -1, 1000), hullOf(-m, -m, maxHeading, maxHeading, 1000),
		// The stern is the bow.
		hullOf(0, 0, 3, 4, 1), hullOf(8, -8, 4, 3, 1), hullOf(0, 0, 3, 3, 1), hullOf(m, m, maxHeading, maxHeading, 1), hullOf(-m, -m, maxHeading, maxHeading-1, 1), hullOf(0, 0, 1000, 999, 1),
	} {
		if !impl.IsHull(bad) || hasAxis(bad) {
			t.Fatalf("%v has an axis", bad)
		}
		for _, distance := range append([]int64{0, 1, 10000}, badReaches...) {
			for _, h := range append(good, bad) {
				refuseNear(t, bad, h, distance, impl.ErrRange)
			}
		}
	}
	// Just not beyond the area, and just not the bow.
	for _, h := range []impl.Hull{hullOf(m-1, 0, -1, 0, 1), hullOf(1-m, 0, 1, 0, 1), hullOf(0, m-1, 0, -1, 1), hullOf(0, 1-m, 0, 1, 1), hullOf(m-1, 0, -3, 4, 1), hullOf(0, 0, 3, 4, 2), hullOf(0, 0, 3, -4, 1), hullOf(0, 0, 2, 2, 1)} {
		if !hasAxis(h) {
			t.Fatalf("%v has no axis", h)
		}
		checkBothOrders(t, h, h, 0, true)
		checkNear(t, h, good[0])
	}
}

func TestAxesOfRandomHulls(t *testing.T) {
	const m = impl.MaxCoord
	counts := map[bool]int{}
	random := rand.New(rand.NewSource(41))
	good := hullOf(0, 0, 0, 1, 50)
	for k := range 10000 {
		h := randomHull(random, m, []int64{9, maxHeading}[k%2], []int64{1, 1000}[k/2%2])
		if k%3 == 0 {
			h.Bow.X = []int64{m, -m, m - h.Length, h.Length - m, m - 1, 1 - m}[random.Intn(6)]
		}
		is := hasAxis(h)
		counts[is]++
		if is {
			checkNear(t, h, good)
		} else {
			refuseNear(t, h, good, random.Int63n(10001), impl.ErrRange)
		}
	}
	if min(counts[true], counts[false]) < 1000 {
		t.Errorf("hulls with an axis: %v", counts)
	}
}
