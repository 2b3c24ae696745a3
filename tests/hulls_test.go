package tests

import (
	"math/big"
	"math/rand"
	"testing"

	"loop.example/g00887/impl"
)

func hullOf(x, y, headingX, headingY, length int64) impl.Hull {
	return impl.Hull{Bow: impl.Point{X: x, Y: y}, Heading: impl.Point{X: headingX, Y: headingY}, Length: length}
}

// someHeadings are the eight main ones, some that are as long as a whole number, some that are not,
// and the longest ones.
func someHeadings() []impl.Point {
	headings := []impl.Point{}
	for _, h := range []impl.Point{{X: 1}, {X: 1, Y: 1}, {X: 3, Y: 4}, {X: 2, Y: 1}, {X: 7, Y: -5}, {X: maxHeading}, {X: maxHeading, Y: maxHeading}, {X: maxHeading - 1, Y: -1}} {
		headings = append(headings, h, opposite(h), impl.Point{X: -h.Y, Y: h.X}, impl.Point{X: h.Y, Y: -h.X})
	}
	return headings
}

func someBows() []impl.Point {
	const m = impl.MaxCoord
	return []impl.Point{{}, {X: 2, Y: -30}, {X: -60, Y: 45}, {X: 0, Y: 1000}, {X: m, Y: m}, {X: -m, Y: m}, {X: -m, Y: -m}, {X: m - 700, Y: m - 709}}
}

// someHullsOf are hulls of all headings at some bows, each with one of the lengths.
func someHullsOf(lengths ...int64) []impl.Hull {
	hulls := []impl.Hull{}
	for k, bow := range someBows() {
		for n, heading := range someHeadings() {
			hulls = append(hulls, impl.Hull{Bow: bow, Heading: heading, Length: lengths[(k+n)%len(lengths)]})
		}
	}
	return hulls
}

// validHulls reach all limits.
func validHulls() []impl.Hull {
	hulls := someHullsOf(someHulls...)
	for _, bow := range validPoints() {
		hulls = append(hulls, impl.Hull{Bow: bow, Heading: impl.Point{X: 3, Y: -4}, Length: 35})
	}
	for _, heading := range validHeadings() {
		hulls = append(hulls, impl.Hull{Bow: impl.Point{X: 5, Y: -6}, Heading: heading, Length: 7})
	}
	return hulls
}

// invalidHulls have one fault each, in a hull that is valid without it, but for the first ones.
func invalidHulls() []impl.Hull {
	hulls := []impl.Hull{{}, {Bow: impl.Point{X: 1}}, {Length: 1}, hullOf(impl.MaxCoord+1, 0, 0, 0, 0)}
	for _, good := range []impl.Hull{hullOf(0, 0, 0, 1, 50), hullOf(-impl.MaxCoord, impl.MaxCoord, maxHeading, -maxHeading, impl.MaxHullLength)} {
		for _, bad := range invalidPoints() {
			hulls = append(hulls, impl.Hull{Bow: bad, Heading: good.Heading, Length: good.Length})
		}
		for _, bad := range invalidHeadings() {
			hulls = append(hulls, impl.Hull{Bow: good.Bow, Heading: bad, Length: good.Length})
		}
		for _, bad := range badHulls {
			hulls = append(hulls, impl.Hull{Bow: good.Bow, Heading: good.Heading, Length: bad})
		}
	}
	return hulls
}

func TestHullConstants(t *testing.T) {
	if impl.HullsOverlap != 0 || impl.HullAstern != 1 || impl.HullAhead != 2 || impl.HullsApart != 3 {
		t.Error(impl.HullsOverlap, impl.HullAstern, impl.HullAhead, impl.HullsApart)
	}
}

func TestIsHull(t *testing.T) {
	for _, h := range validHulls() {
		if !impl.IsHull(h) {
			t.Errorf("%v is valid", h)
		}
	}
	for _, h := range invalidHulls() {
		if impl.IsHull(h) {
			t.Errorf("%v is not valid", h)
		}
	}
}

func TestHullsAtTheLimits(t *testing.T) {
	for _, row := range []struct {
		name    string
		h       impl.Hull
		isValid bool
	}{
		{"the zero value", impl.Hull{}, false},
		{"at the origin", hullOf(0, 0, 0, 1, 50), true},
		{"farthest to the north-east", hullOf(1000000, 1000000, 1, 0, 1), true},
		{"farthest to the south-west", hullOf(-1000000, -1000000, 1, 0, 1), true},
		{"too far to the east", hullOf(1000001, 0, 1, 0, 1), false},
		{"too far to the west", hullOf(-1000001, 0, 1, 0, 1), false},
		{"too far to the north", hullOf(0, 1000001, 1, 0, 1), false},
		{"too far to the south", hullOf(0, -1000001, 1, 0, 1), false},
		{"without a heading", hullOf(3, 4, 0, 0, 50), false},
		{"longest headings", hullOf(0, 0, 2000000, 2000000, 50), true},
		{"longest headings, negative", hullOf(0, 0, -2000000, -2000000, 50), true},
		{"a heading too far to the east", hullOf(0, 0, 2000001, 1, 50), false},
		{"a heading too far to the west", hullOf(0, 0, -2000001, 1, 50), false},
		{"a heading too far to the north", hullOf(0, 0, 1, 2000001, 50), false},
		{"a heading too far to the south", hullOf(0, 0, 1, -2000001, 50), false},
		{"no length", hullOf(0, 0, 0, 1, 0), false},
		{"a negative length", hullOf(0, 0, 0, 1, -1), false},
		{"least length", hullOf(0, 0, 0, 1, 1), true},
		{"greatest length", hullOf(0, 0, 0, 1, 1000), true},
		{"too long", hullOf(0, 0, 0, 1, 1001), false},
	} {
		if impl.IsHull(row.h) != row.isValid {
			t.Errorf("%s: IsHull(%v) is not %v", row.name, row.h, row.isValid)
		}
	}
}

// expectedStern divides big integers. Both roots and quotients are rounded down.
func expectedStern(h impl.Hull) impl.Point {
	root := rootOfSquares(h.Heading.X, h.Heading.Y)
	back := func(coordinate int64) int64 {
		return roundedDown(bigProduct(big.NewInt(coordinate), big.NewInt(h.Length)), root)
	}
	return impl.Point{X: h.Bow.X - back(h.Heading.X), Y: h.Bow.Y - back(h.Heading.Y)}
}

func sternOf(t *testing.T, h impl.Hull) impl.Point {
	t.Helper()
	p, code := impl.SternOf(h)
	if code != impl.ErrNone {
		t.Fatalf("SternOf(%v): code %d", h, code)
	}
	return p
}

func checkStern(t *testing.T, h impl.Hull) {
	t.Helper()
	if p, want := sternOf(t, h), expectedStern(h); p != want {
		t.Fatalf("SternOf(%v) = %v, want %v", h, p, want)
	}
}

func TestSternOf(t *testing.T) {
	const m = impl.MaxCoord
	for _, row := range []struct {
		name string
		h    impl.Hull
		x, y int64
	}{
		{"to the north", hullOf(0, 0, 0, 1, 50), 0, -50},
		{"to the south", hullOf(0, 0, 0, -1, 50), 0, 50},
		{"to the east", hullOf(7, 9, 1, 0, 50), -43, 9},
		{"to the west", hullOf(7, 9, -1, 0, 50), 57, 9},
		{"a long heading", hullOf(7, 9, maxHeading, 0, 50), -43, 9},
		{"whole quotients", hullOf(0, 0, 3, 4, 5), -3, -4},
		{"whole quotients, negative", hullOf(0, 0, -3, -4, 5), 3, 4},
		{"21/5 and 28/5", hullOf(0, 0, 3, 4, 7), -4, -5},
		{"-21/5 and -28/5", hullOf(0, 0, -3, -4, 7), 5, 6},
		{"21/5 and -28/5", hullOf(10, 10, 3, -4, 7), 6, 16},
		{"-21/5 and 28/5", hullOf(10, 10, -3, 4, 7), 15, 5},
		{"3/5 and 4/5, so that the stern is the bow", hullOf(8, -8, 3, 4, 1), 8, -8},
		{"-3/5 and -4/5", hullOf(8, -8, -3, -4, 1), 9, -7},
		{"3/5 and -4/5", hullOf(8, -8, 3, -4, 1), 8, -7},
		{"by the root of 2, rounded down to 1", hullOf(0, 0, 1, 1, 10), -10, -10},
		{"by the root of 2, negative", hullOf(0, 0, -1, -1, 10), 10, 10},
		{"by the root of 5, rounded down to 2", hullOf(0, 0, 2, 1, 5), -5, -2},
		{"by the root of 5, negative", hullOf(0, 0, -2, -1, 5), 5, 3},
		{"by the root of 8, rounded down to 2", hullOf(0, 0, 2, -2, 999), -999, 999},
		{"by the root of 18, rounded down to 4", hullOf(0, 0, 3, 3, 1), 0, 0},
		{"greatest heading and length", hullOf(0, 0, maxHeading, maxHeading, 1000), -707, -707},
		{"greatest heading and length, negative", hullOf(0, 0, -maxHeading, -maxHeading, 1000), 708, 708},
		{"a part of less than 1", hullOf(0, 0, maxHeading, 1, 1000), -1000, 0},
		{"a part of more than -1", hullOf(0, 0, maxHeading, -1, 1000), -1000, 1},
		{"just beyond the east", hullOf(m, 5, -1, 0, 1), m + 1, 5},
		{"just beyond the north", hullOf(5, m, 0, -1, 1), 5, m + 1},
		{"just beyond the west", hullOf(-m, 5, 1, 0, 1), -m - 1, 5},
		{"just beyond the south", hullOf(5, -m, 0, 1, 1), 5, -m - 1},
		{"just not beyond", hullOf(1-m, m-1, 1, 0, 1), -m, m - 1},
		{"far beyond a corner", hullOf(-m, -m, 1, 1, 1000), -m - 1000, -m - 1000},
		{"far beyond the opposite corner", hullOf(m, m, -maxHeading, -maxHeading, 1000), m + 708, m + 708},
	} {
		if p := sternOf(t, row.h); p != (impl.Point{X: row.x, Y: row.y}) {
			t.Errorf("%s: SternOf(%v) = %v, want %d, %d", row.name, row.h, p, row.x, row.y)
		}
		checkStern(t, row.h)
	}
}

// randomHull has a bow within a limit of the coordinates and a heading within another one.
func randomHull(random *rand.Rand, bowLimit, headingLimit, length int64) impl.Hull {
	for {
		h := impl.Hull{Bow: randomPoint(random, bowLimit), Heading: randomPoint(random, headingLimit), Length: 1 + random.Int63n(length)}
		if h.Heading != (impl.Point{}) {
			return h
		}
	}
}

func TestAllSterns(t *testing.T) {
	for _, h := range validHulls() {
		checkStern(t, h)
	}
	for length := int64(1); length <= impl.MaxHullLength; length++ {
		for _, heading := range someHeadings() {
			checkStern(t, impl.Hull{Bow: impl.Point{X: 4, Y: -9}, Heading: heading, Length: length})
		}
	}
	random := rand.New(rand.NewSource(31))
	for k := range 20000 {
		checkStern(t, randomHull(random, impl.MaxCoord, []int64{4, 100, maxHeading}[k%3], impl.MaxHullLength))
	}
}

// The stern is at most one decimetre farther away in each direction than the length, unless the
// root that was rounded down is short.
func TestSternsAreALengthAway(t *testing.T) {
	random := rand.New(rand.NewSource(32))
	for range 5000 {
		h := randomHull(random, impl.MaxCoord, maxHeading, impl.MaxHullLength)
		// A root of 10^5 is less than a hundred-thousandth too small, and so is the length then.
		if root := rootOfSquares(h.Heading.X, h.Heading.Y); root.Cmp(big.NewInt(100000)) < 0 {
			continue
		}
		square := bigSquareDistance(h.Bow, sternOf(t, h))
		near, far := big.NewInt(max(h.Length-2, 0)), big.NewInt(h.Length+2)
		if square.Cmp(bigProduct(near, near)) < 0 || square.Cmp(bigProduct(far, far)) > 0 {
			t.Fatalf("the stern of %v is %v", h, sternOf(t, h))
		}
	}
}
