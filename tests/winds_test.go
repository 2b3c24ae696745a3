package tests

import (
	"math/big"
	"math/rand"
	"testing"

	"loop.example/g00887/impl"
)

// The winds toward the four sides.
var (
	toNorth = impl.Wind{Y: 1}
	toEast  = impl.Wind{X: 1}
	toSouth = impl.Wind{Y: -1}
	toWest  = impl.Wind{X: -1}
)

// maxHeading is twice the greatest coordinate of a valid point.
const maxHeading = 2000000

func validWinds() []impl.Wind {
	winds := []impl.Wind{{X: 3, Y: 4}, {X: -7, Y: 24}, {X: 997, Y: -991}, {X: -500, Y: -500}}
	limits := []int64{-impl.MaxWind, 1 - impl.MaxWind, -1, 0, 1, impl.MaxWind - 1, impl.MaxWind}
	for _, x := range limits {
		for _, y := range limits {
			if x != 0 || y != 0 {
				winds = append(winds, impl.Wind{X: x, Y: y})
			}
		}
	}
	return winds
}

func invalidWinds() []impl.Wind {
	winds := []impl.Wind{{}}
	for _, bad := range append([]int64{impl.MaxWind + 1, -impl.MaxWind - 1, 1 << 32, 1<<32 + 1}, extremes...) {
		for _, good := range []int64{-impl.MaxWind, 0, impl.MaxWind} {
			winds = append(winds, impl.Wind{X: bad, Y: good}, impl.Wind{X: good, Y: bad})
		}
		winds = append(winds, impl.Wind{X: bad, Y: bad}, impl.Wind{X: bad, Y: 1}, impl.Wind{X: 1, Y: bad})
	}
	return winds
}

// validHeadings are those of a small grid, and the limits.
func validHeadings() []impl.Point {
	headings := []impl.Point{}
	limits := []int64{-maxHeading, 1 - maxHeading, -impl.MaxCoord - 1, -1, 0, 1, impl.MaxCoord + 1, maxHeading - 1, maxHeading}
	for _, coords := range [][]int64{{-4, -3, -2, -1, 0, 1, 2, 3, 4}, limits} {
		for _, x := range coords {
			for _, y := range coords {
				if x != 0 || y != 0 {
					headings = append(headings, impl.Point{X: x, Y: y})
				}
			}
		}
	}
	return headings
}

func invalidHeadings() []impl.Point {
	headings := []impl.Point{{}}
	for _, bad := range append([]int64{maxHeading + 1, -maxHeading - 1, 1 << 32, 1<<32 + 1}, extremes...) {
		for _, good := range []int64{-maxHeading, 0, 1, maxHeading} {
			headings = append(headings, impl.Point{X: bad, Y: good}, impl.Point{X: good, Y: bad})
		}
		headings = append(headings, impl.Point{X: bad, Y: bad})
	}
	return headings
}

func opposite(h impl.Point) impl.Point { return impl.Point{X: -h.X, Y: -h.Y} }

// products returns the cross product and the scalar product of a heading and a wind.
func products(w impl.Wind, h impl.Point) (*big.Int, *big.Int) {
	heading, wind := bigWay(impl.Point{}, h), bigWay(impl.Point{}, impl.Point(w))
	return heading.cross(wind), heading.dot(wind)
}

func expectedTack(w impl.Wind, h impl.Point) int64 {
	c, _ := products(w, h)
	return [3]int64{impl.TackPort, impl.TackNone, impl.TackStarboard}[c.Sign()+1]
}

func expectedSail(w impl.Wind, h impl.Point) int64 {
	c, d := products(w, h)
	isAcross := c.CmpAbs(d) > 0
	switch {
	case d.Sign() < 0 && !isAcross:
		return impl.SailUpwind
	case d.Sign() > 0 && !isAcross:
		return impl.SailDownwind
	}
	return impl.SailReaching
}

func tackOf(t *testing.T, w impl.Wind, h impl.Point) int64 {
	t.Helper()
	tack, code := impl.TackOf(w, h)
	if code != impl.ErrNone {
		t.Fatalf("TackOf(%v, %v): code %d", w, h, code)
	}
	return tack
}

func sailOf(t *testing.T, w impl.Wind, h impl.Point) int64 {
	t.Helper()
	sail, code := impl.SailOf(w, h)
	if code != impl.ErrNone {
		t.Fatalf("SailOf(%v, %v): code %d", w, h, code)
	}
	return sail
}

func checkHeading(t *testing.T, w impl.Wind, h impl.Point) {
	t.Helper()
	if tack, want := tackOf(t, w, h), expectedTack(w, h); tack != want {
		t.Fatalf("TackOf(%v, %v) = %d, want %d", w, h, tack, want)
	}
	if sail, want := sailOf(t, w, h), expectedSail(w, h); sail != want {
		t.Fatalf("SailOf(%v, %v) = %d, want %d", w, h, sail, want)
	}
}

func TestWindConstants(t *testing.T) {
	if impl.TackNone != 0 || impl.TackPort != 1 || impl.TackStarboard != 2 {
		t.Error(impl.TackNone, impl.TackPort, impl.TackStarboard)
	}
	if impl.SailUpwind != 1 || impl.SailReaching != 2 || impl.SailDownwind != 3 {
		t.Error(impl.SailUpwind, impl.SailReaching, impl.SailDownwind)
	}
	if impl.TurnTack != 1 || impl.TurnGybe != 2 || impl.MaxWind != 1000 {
		t.Error(impl.TurnTack, impl.TurnGybe, impl.MaxWind)
	}
}

func TestIsWind(t *testing.T) {
	for _, w := range validWinds() {
		if !impl.IsWind(w) {
			t.Errorf("%v is valid", w)
		}
	}
	for _, w := range invalidWinds() {
		if impl.IsWind(w) {
			t.Errorf("%v is not valid", w)
		}
	}
	for _, w := range []impl.Wind{{X: 1001}, {X: -1001}, {Y: 1001}, {Y: -1001}, {X: 1000, Y: 1001}, {X: -1001, Y: -1000}} {
		if impl.IsWind(w) {
			t.Errorf("%v exceeds a limit by one", w)
		}
	}
}

func TestTackOf(t *testing.T) {
	// Along {1000, -999} the cross product is 0.
	skew := impl.Wind{X: 1000, Y: -999}
	for _, row := range []struct {
		name string
		w    impl.Wind
		x, y int64
		want int64
	}{
		{"to the north-east, wind toward the south", toSouth, 1, 1, impl.TackPort},
		{"to the north-west", toSouth, -1, 1, impl.TackStarboard},
		{"to the east", toSouth, 1, 0, impl.TackPort},
		{"to the west", toSouth, -1, 0, impl.TackStarboard},
		{"to the south-east", toSouth, 1, -1, impl.TackPort},
		{"to the south-west", toSouth, -1, -1, impl.TackStarboard},
		{"against the wind", toSouth, 0, 1, impl.TackNone},
		{"with the wind", toSouth, 0, -1, impl.TackNone},
		{"to the east, wind toward the north", toNorth, 1, 0, impl.TackStarboard},
		{"to the west, wind toward the north", toNorth, -1, 0, impl.TackPort},
		{"to the north, wind toward the east", toEast, 0, 1, impl.TackPort},
		{"to the south, wind toward the east", toEast, 0, -1, impl.TackStarboard},
		{"to the north, wind toward the west", toWest, 0, 1, impl.TackStarboard},
		{"to the south, wind toward the west", toWest, 0, -1, impl.TackPort},
		{"with the wind, longer", skew, 2000, -1998, impl.TackNone},
		{"against the wind, longer", skew, -2000, 1998, impl.TackNone},
		{"with the wind, as far as possible", skew, 2000000, -1998000, impl.TackNone},
		{"c is 1", skew, 1, -1, impl.TackStarboard},
		{"c is -1", skew, -1, 1, impl.TackPort},
		{"c is 1, far with the wind", skew, 1999001, -1997002, impl.TackStarboard},
		{"c is -1, far with the wind", skew, 1998999, -1997000, impl.TackPort},
		{"c is 0 between them", skew, 1999000, -1997001, impl.TackNone},
		{"c is 1, far against the wind", skew, -1998999, 1997000, impl.TackStarboard},
		{"c is -1, far against the wind", skew, -1999001, 1997002, impl.TackPort},
		{"greatest c", impl.Wind{X: -1000, Y: 1000}, maxHeading, maxHeading, impl.TackStarboard},
		{"least c", impl.Wind{X: 1000, Y: -1000}, maxHeading, maxHeading, impl.TackPort},
		{"c is 0 at the greatest d", impl.Wind{X: 1000, Y: 1000}, maxHeading, maxHeading, impl.TackNone},
	} {
		h := impl.Point{X: row.x, Y: row.y}
		if tack := tackOf(t, row.w, h); tack != row.want {
			t.Errorf("%s: TackOf(%v, %v) = %d, want %d", row.name, row.w, h, tack, row.want)
		}
		checkHeading(t, row.w, h)
	}
}

func TestSailOf(t *testing.T) {
	// Of {1999 * k, -k} and this wind, c is equal to d; 1 more in X makes c one less than d.
	skew := impl.Wind{X: 1000, Y: 999}
	for _, row := range []struct {
		name string
		w    impl.Wind
		x, y int64
		want int64
	}{
		{"straight against the wind", toSouth, 0, 1, impl.SailUpwind},
		{"straight with the wind", toSouth, 0, -1, impl.SailDownwind},
		{"d is 0", toSouth, 1, 0, impl.SailReaching},
		{"d is 0, to the west", toSouth, -1, 0, impl.SailReaching},
		{"d is 0, far", impl.Wind{X: 1000, Y: -1000}, maxHeading, maxHeading, impl.SailReaching},
		{"equal, d negative", toSouth, 5, 5, impl.SailUpwind},
		{"equal, d negative, c positive", toSouth, -5, 5, impl.SailUpwind},
		{"one less, d negative", toSouth, 4, 5, impl.SailUpwind},
		{"one more, d negative", toSouth, 6, 5, impl.SailReaching},
		{"one more, d negative, c positive", toSouth, -6, 5, impl.SailReaching},
		{"equal, d positive", toSouth, 5, -5, impl.SailDownwind},
		{"equal, d positive, c positive", toSouth, -5, -5, impl.SailDownwind},
		{"one less, d positive", toSouth, 4, -5, impl.SailDownwind},
		{"one more, d positive", toSouth, 6, -5, impl.SailReaching},
		{"one more, d positive, c positive", toSouth, -6, -5, impl.SailReaching},
		{"equal, d is -1", toSouth, 1, 1, impl.SailUpwind},
		{"one more, d is -1", toSouth, 2, 1, impl.SailReaching},
		{"equal, d is 1", toSouth, 1, -1, impl.SailDownwind},
		{"one more, d is 1", toSouth, -2, -1, impl.SailReaching},
		{"equal, far, d positive", skew, 1999000, -1000, impl.SailDownwind},
		{"one less, far, d positive", skew, 1999001, -1000, impl.SailDownwind},
		{"one more, far, d positive", skew, 1998999, -1000, impl.SailReaching},
		{"equal, far, d negative", skew, -1999000, 1000, impl.SailUpwind},
		{"one less, far, d negative", skew, -1999001, 1000, impl.SailUpwind},
		{"one more, far, d negative", skew, -1998999, 1000, impl.SailReaching},
		{"greatest d", impl.Wind{X: 1000, Y: 1000}, maxHeading, maxHeading, impl.SailDownwind},
		{"least d", impl.Wind{X: -1000, Y: -1000}, maxHeading, maxHeading, impl.SailUpwind},
		{"equal, greatest heading", impl.Wind{X: -1000}, maxHeading, maxHeading, impl.SailUpwind},
		{"less by a wind, greatest heading", impl.Wind{X: -1000}, maxHeading, maxHeading - 1, impl.SailUpwind},
		{"more by a wind, greatest heading", impl.Wind{X: -1000}, maxHeading - 1, maxHeading, impl.SailReaching},
	} {
		h := impl.Point{X: row.x, Y: row.y}
		if sail := sailOf(t, row.w, h); sail != row.want {
			t.Errorf("%s: SailOf(%v, %v) = %d, want %d", row.name, row.w, h, sail, row.want)
		}
		checkHeading(t, row.w, h)
	}
}

// randomWind is so weak that c is often 0, or equal to d, for a short heading.
func randomWind(random *rand.Rand, limit int64) impl.Wind {
	for {
		if w := impl.Wind(randomPoint(random, limit)); impl.IsWind(w) {
			return w
		}
	}
}

func TestAllHeadingsInAllWinds(t *testing.T) {
	for _, w := range validWinds() {
		for _, h := range validHeadings() {
			checkHeading(t, w, h)
		}
	}
	random := rand.New(rand.NewSource(21))
	for k := range 20000 {
		limit := []int64{5, 100, maxHeading}[k%3]
		if h := randomPoint(random, limit); h != (impl.Point{}) {
			checkHeading(t, randomWind(random, []int64{4, impl.MaxWind}[k%2]), h)
		}
	}
}

// otherTack is what the promise says of the opposite heading.
var otherTack = map[int64]int64{impl.TackPort: impl.TackStarboard, impl.TackStarboard: impl.TackPort, impl.TackNone: impl.TackNone}

func TestTheOppositeHeadingIsOnTheOtherTack(t *testing.T) {
	otherSail := map[int64]int64{impl.SailUpwind: impl.SailDownwind, impl.SailDownwind: impl.SailUpwind, impl.SailReaching: impl.SailReaching}
	counts := map[int64]int{}
	for _, w := range validWinds() {
		against := impl.Wind{X: -w.X, Y: -w.Y}
		for _, h := range validHeadings() {
			tack, sail := tackOf(t, w, h), sailOf(t, w, h)
			counts[tack]++
			if back := tackOf(t, w, opposite(h)); back != otherTack[tack] {
				t.Fatalf("in the wind %v, the tack of %v is %d, that of the opposite heading %d", w, h, tack, back)
			}
			if turned := tackOf(t, against, h); turned != otherTack[tack] {
				t.Fatalf("the tack of %v is %d in the wind %v, and %d in the opposite one", h, tack, w, turned)
			}
			if back := sailOf(t, w, opposite(h)); back != otherSail[sail] {
				t.Fatalf("in the wind %v, SailOf of %v is %d, that of the opposite heading %d", w, h, sail, back)
			}
		}
	}
	if counts[impl.TackPort] != counts[impl.TackStarboard] || counts[impl.TackPort] < 1000 || counts[impl.TackNone] < 100 {
		t.Errorf("headings on the tacks: %v", counts)
	}
}

func refuseHeading(t *testing.T, w impl.Wind, h impl.Point) {
	t.Helper()
	if tack, code := impl.TackOf(w, h); tack != 0 || code != impl.ErrInvalid {
		t.Fatalf("TackOf(%v, %v) = %d, %d, want 0 and ErrInvalid", w, h, tack, code)
	}
	if sail, code := impl.SailOf(w, h); sail != 0 || code != impl.ErrInvalid {
		t.Fatalf("SailOf(%v, %v) = %d, %d, want 0 and ErrInvalid", w, h, sail, code)
	}
}

func TestInvalidWindsAndHeadings(t *testing.T) {
	for _, bad := range invalidWinds() {
		for _, h := range []impl.Point{{X: 1, Y: 1}, {X: -1}, {Y: 5}, {X: maxHeading, Y: -maxHeading}, {}, {X: maxHeading + 1}} {
			refuseHeading(t, bad, h)
		}
	}
	for _, bad := range invalidHeadings() {
		for _, w := range []impl.Wind{toSouth, {X: 3, Y: -4}, {X: impl.MaxWind, Y: -impl.MaxWind}} {
			refuseHeading(t, w, bad)
		}
	}
}
