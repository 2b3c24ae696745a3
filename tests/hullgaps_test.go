package tests

import (
	"math/big"
	"math/rand"
	"testing"

	"loop.example/g00887/impl"
)

// expectedGapBehind negates d before it divides and rounds down.
func expectedGapBehind(a, b impl.Hull) int64 {
	d := aheadBy(a, b)
	return roundedDown(d.Neg(d), rootOfSquares(a.Heading.X, a.Heading.Y)) - a.Length
}

func gapBehind(t *testing.T, a, b impl.Hull) int64 {
	t.Helper()
	n, code := impl.GapBehind(a, b)
	if code != impl.ErrNone {
		t.Fatalf("GapBehind(%v, %v): code %d", a, b, code)
	}
	return n
}

func TestGapBehind(t *testing.T) {
	const m = impl.MaxCoord
	north, slant := hullOf(0, 0, 0, 1, 50), hullOf(0, 0, 3, 4, 50)
	long := hullOf(0, 0, 0, 77, 50)
	for _, row := range []struct {
		name string
		a    impl.Hull
		x, y int64 // the bow of b
		want int64
	}{
		{"astern", north, 9, -90, 40},
		{"just astern", north, 9, -51, 1},
		{"at the stern", north, 9, -50, 0},
		{"not quite at the stern", north, 9, -49, -1},
		{"beside the bow", north, 9, 0, -50},
		{"at the bow", north, 0, 0, -50},
		{"ahead", north, 9, 10, -60},
		{"a long heading", long, 9, -90, 40},
		{"a long heading, at the stern", long, 9, -50, 0},
		{"-d is 249, rounded down to 49", slant, -31, -39, -1},
		{"-d is 250, that is 50", slant, -30, -40, 0},
		{"-d is 251, rounded down to 50", slant, -29, -41, 0},
		{"-d is 254, rounded down to 50", slant, -30, -41, 0},
		{"-d is 255, that is 51", slant, -33, -39, 1},
		{"-d is 1, rounded down to 0", slant, 1, -1, -50},
		{"-d is 0", slant, 4, -3, -50},
		{"-d is -1, rounded down to -1", slant, -1, 1, -51},
		{"-d is -5, that is -1", slant, -1, 2, -51},
		{"-d is -6, rounded down to -2", slant, 2, 0, -52},
		{"by the root of 2, rounded down to 1", hullOf(0, 0, 1, 1, 10), -5, -5, 0},
		{"by the root of 5, rounded down to 2", hullOf(0, 0, 2, 1, 10), -5, -10, 0},
		{"by the root of 5, -d is 21", hullOf(0, 0, 2, 1, 10), -5, -11, 0},
		{"by the root of 5, -d is -21", hullOf(0, 0, 2, 1, 10), 5, 11, -21},
		{"greatest heading and length, one behind", hullOf(0, 0, maxHeading, maxHeading, 1000), -1, 0, -1000},
		{"greatest heading and length, one ahead", hullOf(0, 0, maxHeading, maxHeading, 1000), 1, 0, -1001},
		{"greatest -d", hullOf(m, m, maxHeading, maxHeading, 1000), -m, -m, 2828427 - 1000},
		{"least -d", hullOf(-m, -m, maxHeading, maxHeading, 1000), m, m, -2828428 - 1000},
		{"greatest gap", hullOf(m, m, 1, 1, 1), -m, -m, 4*m - 1},
		{"least gap", hullOf(-m, -m, 1, 1, 1000), m, m, -4*m - 1000},
		{"farthest along an axis", hullOf(m, 0, maxHeading, 0, 1), -m, m, 2*m - 1},
		{"0 between corners", hullOf(-m, m, maxHeading, maxHeading, 7), m, -m, -7},
	} {
		// The heading and the length of b do not count.
		for _, b := range []impl.Hull{hullOf(row.x, row.y, 0, 1, 50), hullOf(row.x, row.y, -maxHeading, 7, 1), hullOf(row.x, row.y, 3, -4, 1000)} {
			if n := gapBehind(t, row.a, b); n != row.want {
				t.Errorf("%s: GapBehind(%v, %v) = %d, want %d", row.name, row.a, b, n, row.want)
			}
			if n := expectedGapBehind(row.a, b); n != row.want {
				t.Errorf("%s: the tests expect %d", row.name, n)
			}
		}
	}
}

// checkGapBehind also checks that a hull that is clear astern is not before the stern.
func checkGapBehind(t *testing.T, a, b impl.Hull) {
	t.Helper()
	n := gapBehind(t, a, b)
	if want := expectedGapBehind(a, b); n != want {
		t.Fatalf("GapBehind(%v, %v) = %d, want %d", a, b, n, want)
	}
	if n < 0 && clearAstern(t, a, b) {
		t.Fatalf("GapBehind(%v, %v) = %d, but the hull is clear astern", a, b, n)
	}
}

func TestGapsOfAllPairs(t *testing.T) {
	hulls := someHullsOf(1, 40, impl.MaxHullLength)
	for _, a := range hulls {
		for _, b := range hulls {
			checkGapBehind(t, a, b)
		}
	}
	random := rand.New(rand.NewSource(36))
	for k := range 20000 {
		limit, heading := []int64{5, 60, 1500, impl.MaxCoord}[k%4], []int64{2, 6, maxHeading}[k%3]
		checkGapBehind(t, randomHull(random, limit, heading, 1000), randomHull(random, limit, heading, 1000))
	}
}

func TestGapsToTheSameHull(t *testing.T) {
	for _, h := range validHulls() {
		if n := gapBehind(t, h, h); n != -h.Length {
			t.Fatalf("GapBehind(%v, %v) = %d", h, h, n)
		}
	}
}

func windwardOf(t *testing.T, w impl.Wind, a, b impl.Hull) int64 {
	t.Helper()
	n, code := impl.WindwardOf(w, a, b)
	if code != impl.ErrNone {
		t.Fatalf("WindwardOf(%v, %v, %v): code %d", w, a, b, code)
	}
	return n
}

// expectedWindward compares the scalar products as the document says it.
func expectedWindward(w impl.Wind, a, b impl.Hull) int64 {
	_, first := products(w, a.Bow)
	_, second := products(w, b.Bow)
	return [3]int64{1, 0, 2}[first.Cmp(second)+1]
}

// checkWindward checks the result in both orders, and against the boat that chapter 8 tells.
func checkWindward(t *testing.T, w impl.Wind, a, b impl.Hull, want int64) {
	t.Helper()
	if n := windwardOf(t, w, a, b); n != want {
		t.Fatalf("WindwardOf(%v, %v, %v) = %d, want %d", w, a, b, n, want)
	}
	if n := windwardOf(t, w, b, a); n != [3]int64{0, 2, 1}[want] {
		t.Fatalf("exchanged, WindwardOf(%v, %v, %v) = %d, want %d", w, b, a, n, [3]int64{0, 2, 1}[want])
	}
	boat := int64(0)
	if want == 2 {
		boat = 1
	}
	checkWindwardBoat(t, w, []impl.Point{a.Bow, b.Bow}, boat)
}

func TestWindwardOf(t *testing.T) {
	const m = impl.MaxCoord
	slant, skew := impl.Wind{X: 3, Y: 4}, impl.Wind{X: 1000, Y: -999}
	for _, row := range []struct {
		name string
		w    impl.Wind
		p, q impl.Point
		want int64
	}{
		{"farther to the north", toSouth, impl.Point{Y: 5}, impl.Point{}, 1},
		{"farther to the south", toSouth, impl.Point{}, impl.Point{Y: 5}, 2},
		{"level", toSouth, impl.Point{X: 70, Y: 5}, impl.Point{X: -9, Y: 5}, 0},
		{"at one point", toSouth, impl.Point{X: 7, Y: 5}, impl.Point{X: 7, Y: 5}, 0},
		{"farther to the north by one", toSouth, impl.Point{X: -50, Y: 6}, impl.Point{X: 50, Y: 5}, 1},
		{"the wind toward the north", toNorth, impl.Point{Y: 5}, impl.Point{}, 2},
		{"the wind toward the east", toEast, impl.Point{X: -5, Y: 9}, impl.Point{}, 1},
		{"the wind toward the west", toWest, impl.Point{X: -5, Y: 9}, impl.Point{}, 2},
		{"equal products", slant, impl.Point{X: 4, Y: -3}, impl.Point{X: -4, Y: 3}, 0},
		{"a product of one less", slant, impl.Point{X: 5, Y: -4}, impl.Point{}, 1},
		{"a product of one more", slant, impl.Point{X: -1, Y: 1}, impl.Point{}, 2},
		{"products of -1 and 1", slant, impl.Point{X: 1, Y: -1}, impl.Point{X: -1, Y: 1}, 1},
		{"equal products, far", skew, impl.Point{X: 999000, Y: m}, impl.Point{X: -999000, Y: -m}, 0},
		{"one less, far", skew, impl.Point{X: 998999, Y: 999999}, impl.Point{X: -999000, Y: -m}, 1},
		{"one more, far", skew, impl.Point{X: -998999, Y: -999999}, impl.Point{X: 999000, Y: m}, 2},
		{"corners", impl.Wind{X: 1000, Y: 1000}, impl.Point{X: m, Y: m}, impl.Point{X: -m, Y: -m}, 2},
		{"corners, the other way", impl.Wind{X: -1000, Y: -1000}, impl.Point{X: m, Y: m}, impl.Point{X: -m, Y: -m}, 1},
		{"corners across the wind", impl.Wind{X: -1000, Y: -1000}, impl.Point{X: m, Y: -m}, impl.Point{X: -m, Y: m}, 0},
	} {
		t.Run(row.name, func(t *testing.T) {
			// Neither the headings nor the lengths count.
			for _, h := range []impl.Hull{hullOf(0, 0, 0, 1, 50), hullOf(0, 0, -maxHeading, 7, 1), hullOf(0, 0, 3, -4, 1000)} {
				a, b := hullOf(row.p.X, row.p.Y, -5, 1, 30), impl.Hull{Bow: row.q, Heading: h.Heading, Length: h.Length}
				checkWindward(t, row.w, a, b, row.want)
				if n := expectedWindward(row.w, a, b); n != row.want {
					t.Errorf("the tests expect %d of %v and %v", n, a, b)
				}
			}
		})
	}
}

func TestWindwardHullsOfRandomWinds(t *testing.T) {
	counts := [3]int{}
	random := rand.New(rand.NewSource(37))
	for k := range 20000 {
		w, limit := randomWind(random, []int64{2, impl.MaxWind}[k%2]), []int64{3, impl.MaxCoord}[k/2%2]
		a, b := randomHull(random, limit, 5, 1000), randomHull(random, limit, maxHeading, 1000)
		// Every fifth pair is level: one bow is across the wind from the other one.
		if k%5 == 0 {
			b.Bow = plus(a.Bow, impl.Point{X: w.Y, Y: -w.X})
		}
		if !impl.IsHull(b) {
			continue
		}
		want := expectedWindward(w, a, b)
		counts[want]++
		checkWindward(t, w, a, b, want)
	}
	if min(counts[0], counts[1], counts[2]) < 2000 {
		t.Errorf("hulls to windward: %v", counts)
	}
	// The products of the boundary differ by one.
	for k := range 2000 {
		w := randomWind(random, impl.MaxWind)
		if !areCoprime(w.X, w.Y) {
			continue
		}
		for d, want := range map[int64]int64{-1: 2, 0: 0, 1: 1} {
			from, to := bowsApartBy(wayWithProduct(impl.Point(w), d))
			if _, p := products(w, minus(to, from)); p.Cmp(big.NewInt(d)) != 0 {
				t.Fatalf("the way from %v to %v does not have the product %d with %v", from, to, d, w)
			}
			checkWindward(t, w, hullOf(from.X, from.Y, 1, int64(k), 9), hullOf(to.X, to.Y, -1, int64(k), 1), want)
		}
	}
}
