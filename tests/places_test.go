package tests

import (
	"math/big"
	"testing"

	"loop.example/g00887/impl"
)

const maxDen = 100000000000000

// badDens are denominators that no function of chapter 2 accepts.
func badDens() []int64 {
	return append([]int64{0, -1, -2, -maxDen, maxDen + 1, 2 * maxDen}, extremes...)
}

// expectedAt returns the integer at the place r on the way from a to b, rounded down.
func expectedAt(a, b int64, r impl.Ratio) int64 {
	product := bigProduct(bigDifference(b, a), big.NewInt(r.Num))
	// big.Int's Div is Euclidean, which is the floor if the divisor is positive.
	return a + product.Div(product, big.NewInt(r.Den)).Int64()
}

func checkPointAt(t *testing.T, s impl.Segment, r impl.Ratio) {
	t.Helper()
	want := impl.Point{X: expectedAt(s.A.X, s.B.X, r), Y: expectedAt(s.A.Y, s.B.Y, r)}
	if p, code := impl.PointAt(s, r); code != impl.ErrNone || p != want {
		t.Fatalf("PointAt(%v, %v) = %v, %d, want %v", s, r, p, code, want)
	}
}

func TestPointAt(t *testing.T) {
	const m = impl.MaxCoord
	long := segment(-m, m, m, -m)
	for _, c := range []struct {
		s    impl.Segment
		r    impl.Ratio
		want impl.Point
	}{
		{segment(0, 0, 3, 0), impl.Ratio{Num: 1, Den: 2}, impl.Point{X: 1}},
		{segment(3, 0, 0, 0), impl.Ratio{Num: 1, Den: 2}, impl.Point{X: 1}},
		{segment(0, 0, 3, -3), impl.Ratio{Num: 1, Den: 2}, impl.Point{X: 1, Y: -2}},
		{segment(-3, 0, 0, -3), impl.Ratio{Num: 1, Den: 3}, impl.Point{X: -2, Y: -1}},
		{segment(0, 0, -4, 4), impl.Ratio{Num: 2, Den: 4}, impl.Point{X: -2, Y: 2}},
		{segment(7, 8, 9, 1), impl.Ratio{Num: 0, Den: 5}, impl.Point{X: 7, Y: 8}},
		{segment(7, 8, 9, 1), impl.Ratio{Num: 5, Den: 5}, impl.Point{X: 9, Y: 1}},
		{long, impl.Ratio{Num: 0, Den: maxDen}, long.A},
		{long, impl.Ratio{Num: maxDen, Den: maxDen}, long.B},
		{long, impl.Ratio{Num: 1, Den: maxDen}, impl.Point{X: -m, Y: m - 1}},
		{long, impl.Ratio{Num: maxDen - 1, Den: maxDen}, impl.Point{X: m - 1, Y: -m}},
		{long, impl.Ratio{Num: maxDen / 2, Den: maxDen}, impl.Point{}},
		{long, impl.Ratio{Num: maxDen/2 - 1, Den: maxDen}, impl.Point{X: -1}},
		{long, impl.Ratio{Num: maxDen/2 + 1, Den: maxDen}, impl.Point{Y: -1}},
	} {
		if p, code := impl.PointAt(c.s, c.r); code != impl.ErrNone || p != c.want {
			t.Errorf("PointAt(%v, %v) = %v, %d, want %v", c.s, c.r, p, code, c.want)
		}
	}
}

func TestPointAtRoundsDown(t *testing.T) {
	for _, s := range gridSegments() {
		for den := int64(1); den <= 7; den++ {
			for num := int64(0); num <= den; num++ {
				checkPointAt(t, s, impl.Ratio{Num: num, Den: den})
			}
		}
	}
	for _, s := range farSegments() {
		for _, den := range []int64{1, 2, 3, 1999999, 2000000, 7999996000001, maxDen / 2, maxDen - 1, maxDen} {
			for _, num := range []int64{0, 1, den / 3, den / 2, den - den/3, den - 1, den} {
				checkPointAt(t, s, impl.Ratio{Num: num, Den: den})
			}
		}
	}
}

// Every point of a segment lies in the rectangle of its ends.
func TestPointAtACrossing(t *testing.T) {
	segments := append(gridSegments(), farSegments()...)
	for _, s := range segments {
		for _, u := range segments {
			r, code := impl.CrossingPlace(s, u)
			if code != impl.ErrNone {
				continue
			}
			p, code := impl.PointAt(s, r)
			if code != impl.ErrNone || p.X < min(s.A.X, s.B.X) || p.X > max(s.A.X, s.B.X) || p.Y < min(s.A.Y, s.B.Y) || p.Y > max(s.A.Y, s.B.Y) {
				t.Fatalf("PointAt(%v, %v) = %v, %d", s, r, p, code)
			}
		}
	}
}

func TestPointAtErrors(t *testing.T) {
	refuse := func(s impl.Segment, r impl.Ratio, want int64) {
		t.Helper()
		if p, code := impl.PointAt(s, r); p != (impl.Point{}) || code != want {
			t.Fatalf("PointAt(%v, %v) = %v, %d, want the code %d", s, r, p, code, want)
		}
	}
	s := segment(1, 2, 3, 4)
	for _, den := range badDens() {
		for _, num := range []int64{-1, 0, 1, den} {
			refuse(s, impl.Ratio{Num: num, Den: den}, impl.ErrRange)
		}
	}
	for _, den := range []int64{1, 2, maxDen - 1, maxDen} {
		for _, num := range append([]int64{-1, -den, den + 1}, extremes...) {
			refuse(s, impl.Ratio{Num: num, Den: den}, impl.ErrRange)
		}
	}
	for _, bad := range invalidSegments() {
		for _, r := range []impl.Ratio{{Num: 0, Den: 1}, {Num: 1, Den: 2}, {}, {Num: 2, Den: 1}, {Num: -1, Den: 1}, {Num: 1, Den: maxDen + 1}} {
			refuse(bad, r, impl.ErrInvalid)
		}
	}
}

// squareDistanceAt returns the square of the distance from p to the point of s at a place.
func squareDistanceAt(s impl.Segment, place *big.Rat, p impl.Point) *big.Rat {
	way, back := bigWay(s.A, s.B), bigWay(p, s.A)
	x := new(big.Rat).Mul(place, new(big.Rat).SetInt(way.x))
	y := new(big.Rat).Mul(place, new(big.Rat).SetInt(way.y))
	x.Add(x, new(big.Rat).SetInt(back.x))
	y.Add(y, new(big.Rat).SetInt(back.y))
	return x.Add(x.Mul(x, x), y.Mul(y, y))
}

func expectedNearest(s impl.Segment, p impl.Point) *big.Rat {
	way := bigWay(s.A, s.B)
	place := new(big.Rat).SetFrac(way.dot(bigWay(s.A, p)), way.dot(way))
	switch {
	case place.Cmp(ratZero) < 0:
		return ratZero
	case place.Cmp(ratOne) > 0:
		return ratOne
	}
	return place
}

func nearestPlace(t *testing.T, s impl.Segment, p impl.Point) impl.Ratio {
	t.Helper()
	r, code := impl.NearestPlace(s, p)
	if code != impl.ErrNone {
		t.Fatalf("NearestPlace(%v, %v): code %d", s, p, code)
	}
	checkPlace(t, r)
	if want := expectedNearest(s, p); ratOf(r).Cmp(want) != 0 {
		t.Fatalf("NearestPlace(%v, %v) = %v, want %v", s, p, r, want)
	}
	return r
}

func gridPoints() []impl.Point {
	points := []impl.Point{}
	for x := int64(-3); x <= 4; x++ {
		for y := int64(-3); y <= 4; y++ {
			points = append(points, impl.Point{X: x, Y: y})
		}
	}
	return points
}

func TestNearestPlace(t *testing.T) {
	const m = impl.MaxCoord
	s := segment(0, 0, 4, 0)
	for _, c := range []struct {
		s    impl.Segment
		p    impl.Point
		want impl.Ratio
	}{
		{s, impl.Point{X: 2, Y: 7}, impl.Ratio{Num: 1, Den: 2}},
		{s, impl.Point{X: 2}, impl.Ratio{Num: 1, Den: 2}},
		{s, impl.Point{X: 1, Y: -7}, impl.Ratio{Num: 1, Den: 4}},
		{reversed(s), impl.Point{X: 1, Y: -7}, impl.Ratio{Num: 3, Den: 4}},
		{s, impl.Point{X: -3, Y: 7}, impl.Ratio{Num: 0, Den: 1}},
		{s, impl.Point{Y: 7}, impl.Ratio{Num: 0, Den: 1}},
		{s, impl.Point{}, impl.Ratio{Num: 0, Den: 1}},
		{s, impl.Point{X: 4}, impl.Ratio{Num: 1, Den: 1}},
		{s, impl.Point{X: 4, Y: -1}, impl.Ratio{Num: 1, Den: 1}},
		{s, impl.Point{X: 5, Y: -1}, impl.Ratio{Num: 1, Den: 1}},
		{segment(0, 0, 2, 2), impl.Point{X: 1}, impl.Ratio{Num: 1, Den: 4}},
		{segment(-m, -m, m, m), impl.Point{X: -m, Y: m}, impl.Ratio{Num: 1, Den: 2}},
		{segment(-m, -m, m, m), impl.Point{X: 1 - m, Y: -m}, impl.Ratio{Num: 1, Den: 4 * m}},
		{segment(-m, -m, m, m-1), impl.Point{X: 1 - m, Y: -m}, impl.Ratio{Num: 2000000, Den: 7999996000001}},
		{segment(m, m, m-1, m), impl.Point{X: -m, Y: -m}, impl.Ratio{Num: 1, Den: 1}},
	} {
		if r, code := impl.NearestPlace(c.s, c.p); code != impl.ErrNone || r != c.want {
			t.Errorf("NearestPlace(%v, %v) = %v, %d, want %v", c.s, c.p, r, code, c.want)
		}
	}
	for _, s := range farSegments() {
		for _, p := range validPoints() {
			nearestPlace(t, s, p)
		}
	}
}

func TestNoOtherPlaceIsNearer(t *testing.T) {
	others := []*big.Rat{}
	for num := int64(0); num <= 12; num++ {
		others = append(others, big.NewRat(num, 12))
	}
	for _, s := range gridSegments()[:120] {
		for _, p := range gridPoints() {
			r := nearestPlace(t, s, p)
			nearest := squareDistanceAt(s, ratOf(r), p)
			for _, other := range others {
				if squareDistanceAt(s, other, p).Cmp(nearest) < 0 {
					t.Fatalf("of %v, the place %v is nearer to %v than %v", s, other, p, r)
				}
			}
		}
	}
}

func TestNearestPlaceErrors(t *testing.T) {
	refuse := func(s impl.Segment, p impl.Point) {
		t.Helper()
		if r, code := impl.NearestPlace(s, p); r != (impl.Ratio{}) || code != impl.ErrInvalid {
			t.Fatalf("NearestPlace(%v, %v) = %v, %d, want ErrInvalid", s, p, r, code)
		}
	}
	for _, s := range invalidSegments() {
		refuse(s, impl.Point{X: 1, Y: 2})
		refuse(s, s.A)
	}
	for _, p := range invalidPoints() {
		refuse(segment(0, 0, 4, 0), p)
		refuse(impl.Segment{}, p)
	}
}

func isWithin(t *testing.T, s impl.Segment, p impl.Point, d int64) bool {
	t.Helper()
	x, code := impl.WithinDistance(s, p, d)
	if code != impl.ErrNone {
		t.Fatalf("WithinDistance(%v, %v, %d): code %d", s, p, d, code)
	}
	return x
}

// checkDistances compares WithinDistance with the exact distance, for d around it and at the limits.
func checkDistances(t *testing.T, s impl.Segment, p impl.Point) {
	t.Helper()
	square := squareDistanceAt(s, expectedNearest(s, p), p)
	whole := new(big.Int).Div(square.Num(), square.Denom())
	near := whole.Sqrt(whole).Int64()
	for _, d := range []int64{0, 1, near - 1, near, near + 1, 9999, 10000} {
		if d < 0 || d > 10000 {
			continue
		}
		want := square.Cmp(big.NewRat(d*d, 1)) <= 0
		if isWithin(t, s, p, d) != want {
			t.Fatalf("WithinDistance(%v, %v, %d) is not %v", s, p, d, want)
		}
	}
}

func TestWithinDistance(t *testing.T) {
	const m = impl.MaxCoord
	s, long := segment(0, 0, 4, 0), segment(-m, -m, m, m)
	for _, c := range []struct {
		s       impl.Segment
		p       impl.Point
		nearest int64 // the least d that is enough
	}{
		{s, impl.Point{}, 0}, {s, impl.Point{X: 4}, 0}, {s, impl.Point{X: 2}, 0},
		{s, impl.Point{X: 2, Y: 5}, 5}, {s, impl.Point{X: 2, Y: -5}, 5}, {s, impl.Point{Y: 5}, 5}, {s, impl.Point{X: 4, Y: 5}, 5},
		{s, impl.Point{X: 7, Y: 4}, 5}, {s, impl.Point{X: -3, Y: -4}, 5}, {s, impl.Point{X: 5}, 1}, {s, impl.Point{X: 5, Y: 1}, 2},
		{segment(0, 0, 3, 4), impl.Point{X: -4, Y: 3}, 5}, {segment(0, 0, 2, 2), impl.Point{X: 2}, 2},
		{s, impl.Point{X: 2, Y: 9999}, 9999}, {s, impl.Point{X: 2, Y: 10000}, 10000},
		{long, impl.Point{X: 100, Y: -100}, 142}, {long, impl.Point{X: -100, Y: 100}, 142}, {long, impl.Point{X: 1}, 1}, {long, impl.Point{X: 777, Y: 777}, 0},
		{long, impl.Point{X: 7071, Y: -7071}, 10000}, {segment(m, m, m-1, m), impl.Point{X: m, Y: m - 10000}, 10000},
	} {
		if !isWithin(t, c.s, c.p, c.nearest) {
			t.Errorf("%v is within %d of %v", c.p, c.nearest, c.s)
		}
		if c.nearest > 0 && isWithin(t, c.s, c.p, c.nearest-1) {
			t.Errorf("%v is not within %d of %v", c.p, c.nearest-1, c.s)
		}
	}
	for _, p := range []impl.Point{{X: 2, Y: 10001}, {X: 10005}, {X: -10001}, {X: m, Y: m}, {X: -m, Y: -m}} {
		if isWithin(t, s, p, 10000) {
			t.Errorf("%v is not within 10000 of %v", p, s)
		}
	}
	if isWithin(t, long, impl.Point{X: 7072, Y: -7072}, 10000) {
		t.Error("7072 times the root of 2 is more than 10000")
	}
}

func TestWithinExactDistances(t *testing.T) {
	for _, s := range gridSegments() {
		for _, p := range gridPoints() {
			checkDistances(t, s, p)
		}
	}
	for _, s := range farSegments() {
		for _, p := range validPoints() {
			checkDistances(t, s, p)
		}
		// Points near the segment, on both sides of it and past its ends.
		for _, q := range []impl.Point{s.A, s.B, {X: (s.A.X + s.B.X) / 2, Y: (s.A.Y + s.B.Y) / 2}} {
			for _, x := range []int64{-9973, -7071, -3000, 0, 6, 7072, 10000} {
				for _, y := range []int64{-10000, -4000, -1, 0, 8, 7071, 8000} {
					if p := (impl.Point{X: q.X + x, Y: q.Y + y}); impl.IsPoint(p) {
						checkDistances(t, s, p)
					}
				}
			}
		}
	}
}

// A product in 64 bits wraps around for these: the square of the turn, or d * d times the square of
// the length.
func TestWithinDistanceWithoutOverflow(t *testing.T) {
	const m = impl.MaxCoord
	for _, s := range []impl.Segment{segment(-m, -m, m, m), segment(-m, -m, m, m-1), segment(m, -m, -m, m), segment(-m, 0, m, 1)} {
		for y := int64(-m); y <= m; y += 1237 {
			checkDistances(t, s, impl.Point{X: 17, Y: y})
			checkDistances(t, s, impl.Point{X: y, Y: -5})
		}
	}
}

// Segments that meet either cross or have an end of one at the distance 0 from the other.
func TestMeetingAndDistanceAgree(t *testing.T) {
	segments := append(gridSegments(), farSegments()[:30]...)
	for _, s := range segments {
		for _, u := range segments {
			cross, _ := impl.SegmentsCross(s, u)
			meet, _ := impl.SegmentsMeet(s, u)
			touch := isWithin(t, s, u.A, 0) || isWithin(t, s, u.B, 0) || isWithin(t, u, s.A, 0) || isWithin(t, u, s.B, 0)
			if meet != (cross || touch) || cross && touch {
				t.Fatalf("%v and %v: cross %v, meet %v, touch %v", s, u, cross, meet, touch)
			}
		}
	}
}

func TestWithinDistanceErrors(t *testing.T) {
	refuse := func(s impl.Segment, p impl.Point, d int64, want int64) {
		t.Helper()
		if x, code := impl.WithinDistance(s, p, d); x || code != want {
			t.Fatalf("WithinDistance(%v, %v, %d) = %v, %d, want the code %d", s, p, d, x, code, want)
		}
	}
	badDistances := append([]int64{-1, -5, -10000, 10001, 20000}, extremes...)
	s := segment(0, 0, 4, 0)
	for _, d := range badDistances {
		refuse(s, s.A, d, impl.ErrRange)
		refuse(s, impl.Point{X: 2, Y: 5}, d, impl.ErrRange)
	}
	for _, d := range append(badDistances, 0, 10000) {
		for _, bad := range invalidSegments() {
			refuse(bad, impl.Point{X: 1, Y: 2}, d, impl.ErrInvalid)
		}
		for _, bad := range invalidPoints() {
			refuse(s, bad, d, impl.ErrInvalid)
			refuse(impl.Segment{}, bad, d, impl.ErrInvalid)
		}
	}
}

func checkRatios(t *testing.T, x, y impl.Ratio) {
	t.Helper()
	want := int64(ratOf(x).Cmp(ratOf(y)))
	if n, code := impl.CompareRatios(x, y); code != impl.ErrNone || n != want {
		t.Fatalf("CompareRatios(%v, %v) = %d, %d, want %d", x, y, n, code, want)
	}
}

func TestCompareRatios(t *testing.T) {
	for _, c := range []struct {
		x, y impl.Ratio
		want int64
	}{
		{impl.Ratio{Num: 1, Den: 2}, impl.Ratio{Num: 1, Den: 3}, 1},
		{impl.Ratio{Num: 1, Den: 3}, impl.Ratio{Num: 1, Den: 2}, -1},
		{impl.Ratio{Num: -1, Den: 2}, impl.Ratio{Num: -1, Den: 3}, -1},
		{impl.Ratio{Num: -1, Den: 2}, impl.Ratio{Num: -2, Den: 4}, 0},
		{impl.Ratio{Num: 0, Den: 1}, impl.Ratio{Num: 0, Den: maxDen}, 0},
		{impl.Ratio{Num: -1, Den: 1}, impl.Ratio{Num: 1, Den: 1}, -1},
		{impl.Ratio{Num: maxDen, Den: maxDen}, impl.Ratio{Num: 1, Den: 1}, 0},
		{impl.Ratio{Num: -maxDen, Den: maxDen}, impl.Ratio{Num: -1, Den: 1}, 0},
		{impl.Ratio{Num: maxDen - 1, Den: maxDen}, impl.Ratio{Num: maxDen - 2, Den: maxDen - 1}, 1},
		{impl.Ratio{Num: 1 - maxDen, Den: maxDen}, impl.Ratio{Num: 2 - maxDen, Den: maxDen - 1}, -1},
		{impl.Ratio{Num: 1, Den: maxDen}, impl.Ratio{Num: 1, Den: maxDen - 1}, -1},
		{impl.Ratio{Num: 1, Den: maxDen}, impl.Ratio{Num: 0, Den: 1}, 1},
		{impl.Ratio{Num: -1, Den: maxDen}, impl.Ratio{Num: 0, Den: 1}, -1},
	} {
		if n, code := impl.CompareRatios(c.x, c.y); code != impl.ErrNone || n != c.want {
			t.Errorf("CompareRatios(%v, %v) = %d, %d, want %d", c.x, c.y, n, code, c.want)
		}
	}
	ratios := []impl.Ratio{}
	for den := int64(1); den <= 6; den++ {
		for num := -den; num <= den; num++ {
			ratios = append(ratios, impl.Ratio{Num: num, Den: den})
		}
	}
	for _, den := range []int64{999999937, 3037000500, 7999996000001, maxDen / 3, maxDen / 2, maxDen - 1, maxDen} {
		for _, num := range []int64{0, 1, 2, den / 3, den/2 - 1, den / 2, den/2 + 1, den - 1, den} {
			ratios = append(ratios, impl.Ratio{Num: num, Den: den}, impl.Ratio{Num: -num, Den: den})
		}
	}
	for _, x := range ratios {
		for _, y := range ratios {
			checkRatios(t, x, y)
		}
	}
}

func TestCompareRatiosRange(t *testing.T) {
	bad := []impl.Ratio{{}}
	for _, den := range badDens() {
		for _, num := range []int64{-1, 0, 1, den} {
			bad = append(bad, impl.Ratio{Num: num, Den: den})
		}
	}
	for _, den := range []int64{1, 2, maxDen - 1, maxDen} {
		for _, num := range append([]int64{den + 1, -den - 1}, extremes...) {
			bad = append(bad, impl.Ratio{Num: num, Den: den})
		}
	}
	for _, x := range bad {
		for _, y := range []impl.Ratio{{Num: 0, Den: 1}, {Num: 1, Den: 2}, {Num: -maxDen, Den: maxDen}, x} {
			for _, pair := range [][2]impl.Ratio{{x, y}, {y, x}} {
				if n, code := impl.CompareRatios(pair[0], pair[1]); n != 0 || code != impl.ErrRange {
					t.Fatalf("CompareRatios(%v, %v) = %d, %d, want 0 and ErrRange", pair[0], pair[1], n, code)
				}
			}
		}
	}
}
