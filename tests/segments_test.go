package tests

import (
	"math/big"
	"testing"

	"loop.example/g00887/impl"
)

func segment(ax, ay, bx, by int64) impl.Segment {
	return impl.Segment{A: impl.Point{X: ax, Y: ay}, B: impl.Point{X: bx, Y: by}}
}

func reversed(s impl.Segment) impl.Segment { return impl.Segment{A: s.B, B: s.A} }

func segmentsAmong(points []impl.Point) []impl.Segment {
	segments := []impl.Segment{}
	for _, a := range points {
		for _, b := range points {
			if a != b {
				segments = append(segments, impl.Segment{A: a, B: b})
			}
		}
	}
	return segments
}

// gridSegments touch, overlap, contain one another and have common ends in all possible ways.
func gridSegments() []impl.Segment {
	points := []impl.Point{}
	for x := int64(-1); x <= 2; x++ {
		for y := int64(-1); y <= 2; y++ {
			points = append(points, impl.Point{X: x, Y: y})
		}
	}
	return segmentsAmong(points)
}

func farSegments() []impl.Segment {
	const m = impl.MaxCoord
	return segmentsAmong([]impl.Point{
		{X: -m, Y: -m}, {X: m, Y: m}, {X: -m, Y: m}, {X: m, Y: -m}, {X: m - 1, Y: m}, {X: m, Y: m - 1},
		{X: 1 - m, Y: -m}, {X: -m, Y: 1 - m}, {X: 1 - m, Y: 1 - m}, {}, {X: 1}, {X: -1, Y: -1}, {X: 999983, Y: -999979},
	})
}

func invalidSegments() []impl.Segment {
	segments := []impl.Segment{
		{}, segment(5, -3, 5, -3), segment(impl.MaxCoord, impl.MaxCoord, impl.MaxCoord, impl.MaxCoord),
	}
	for _, bad := range invalidPoints() {
		good := impl.Point{X: 3, Y: -impl.MaxCoord}
		segments = append(segments, impl.Segment{A: bad, B: good}, impl.Segment{A: good, B: bad}, impl.Segment{A: bad, B: bad})
	}
	return segments
}

// bigVector is a vector without a limit of its coordinates.
type bigVector struct{ x, y *big.Int }

func bigWay(p, q impl.Point) bigVector {
	return bigVector{bigDifference(q.X, p.X), bigDifference(q.Y, p.Y)}
}

func (v bigVector) cross(w bigVector) *big.Int {
	return new(big.Int).Sub(bigProduct(v.x, w.y), bigProduct(v.y, w.x))
}

func (v bigVector) dot(w bigVector) *big.Int {
	return new(big.Int).Add(bigProduct(v.x, w.x), bigProduct(v.y, w.y))
}

var ratZero, ratOne = new(big.Rat), big.NewRat(1, 1)

func isBetween(low, x, high *big.Rat) bool { return low.Cmp(x) <= 0 && x.Cmp(high) <= 0 }

func isStrictlyBetween(low, x, high *big.Rat) bool { return low.Cmp(x) < 0 && x.Cmp(high) < 0 }

// expectedPair is what the equation s.A + u * (s.B - s.A) = t.A + v * (t.B - t.A) says of two segments.
type expectedPair struct {
	cross, meet bool
	place       *big.Rat // u, or nil if the line through t does not meet s in one point
}

func solvePair(s, t impl.Segment) expectedPair {
	d, e, w := bigWay(s.A, s.B), bigWay(t.A, t.B), bigWay(s.A, t.A)
	det := d.cross(e)
	if det.Sign() != 0 {
		u, v := new(big.Rat).SetFrac(w.cross(e), det), new(big.Rat).SetFrac(w.cross(d), det)
		found := expectedPair{
			cross: isStrictlyBetween(ratZero, u, ratOne) && isStrictlyBetween(ratZero, v, ratOne),
			meet:  isBetween(ratZero, u, ratOne) && isBetween(ratZero, v, ratOne),
		}
		if isBetween(ratZero, u, ratOne) {
			found.place = u
		}
		return found
	}
	if w.cross(d).Sign() != 0 {
		return expectedPair{}
	}
	// Both are on one line: their shares of it, measured along s, overlap or not.
	from := new(big.Rat).SetFrac(w.dot(d), d.dot(d))
	to := new(big.Rat).SetFrac(bigWay(s.A, t.B).dot(d), d.dot(d))
	if from.Cmp(to) > 0 {
		from, to = to, from
	}
	return expectedPair{meet: from.Cmp(ratOne) <= 0 && to.Cmp(ratZero) >= 0}
}

func ratOf(r impl.Ratio) *big.Rat { return big.NewRat(r.Num, r.Den) }

// checkPlace checks that a place is between 0 and 1 and in lowest terms.
func checkPlace(t *testing.T, r impl.Ratio) {
	t.Helper()
	if r.Den < 1 || r.Num < 0 || r.Num > r.Den {
		t.Fatalf("%v is not between 0 and 1", r)
	}
	// A big.Rat is in lowest terms, and its zero is 0/1.
	if x := ratOf(r); x.Num().Int64() != r.Num || x.Denom().Int64() != r.Den {
		t.Fatalf("%v is not in lowest terms", r)
	}
}

func checkPair(t *testing.T, s, u impl.Segment) {
	t.Helper()
	want := solvePair(s, u)
	cross, code := impl.SegmentsCross(s, u)
	if code != impl.ErrNone || cross != want.cross {
		t.Fatalf("SegmentsCross(%v, %v) = %v, %d, want %v", s, u, cross, code, want.cross)
	}
	meet, code := impl.SegmentsMeet(s, u)
	if code != impl.ErrNone || meet != want.meet {
		t.Fatalf("SegmentsMeet(%v, %v) = %v, %d, want %v", s, u, meet, code, want.meet)
	}
	if cross && !meet {
		t.Fatalf("%v and %v cross, but do not meet", s, u)
	}
	place, code := impl.CrossingPlace(s, u)
	if want.place == nil {
		if code != impl.ErrNotFound || place != (impl.Ratio{}) {
			t.Fatalf("CrossingPlace(%v, %v) = %v, %d, want ErrNotFound", s, u, place, code)
		}
		if cross {
			t.Fatalf("%v and %v cross, but have no place of the crossing", s, u)
		}
		return
	}
	if code != impl.ErrNone {
		t.Fatalf("CrossingPlace(%v, %v): code %d", s, u, code)
	}
	checkPlace(t, place)
	if ratOf(place).Cmp(want.place) != 0 {
		t.Fatalf("CrossingPlace(%v, %v) = %v, want %v", s, u, place, want.place)
	}
}

func TestIsSegment(t *testing.T) {
	for _, s := range append(gridSegments(), farSegments()...) {
		if !impl.IsSegment(s) {
			t.Errorf("%v is valid", s)
		}
	}
	for _, s := range invalidSegments() {
		if impl.IsSegment(s) {
			t.Errorf("%v is not valid", s)
		}
	}
}

func TestPairsOfSegments(t *testing.T) {
	const m = impl.MaxCoord
	none := impl.Ratio{}
	for _, c := range []struct {
		name        string
		s, t        impl.Segment
		cross, meet bool
		place       impl.Ratio
	}{
		{"diagonals of a square", segment(0, 0, 4, 4), segment(0, 4, 4, 0), true, true, impl.Ratio{Num: 1, Den: 2}},
		{"a third of the way", segment(0, 0, 9, 0), segment(3, -1, 3, 2), true, true, impl.Ratio{Num: 1, Den: 3}},
		{"a third of the way back", segment(9, 0, 0, 0), segment(3, -1, 3, 2), true, true, impl.Ratio{Num: 2, Den: 3}},
		{"common end", segment(0, 0, 4, 4), segment(4, 4, 9, 0), false, true, impl.Ratio{Num: 1, Den: 1}},
		{"common beginning", segment(0, 0, 4, 4), segment(0, 0, 4, 0), false, true, impl.Ratio{Num: 0, Den: 1}},
		{"end of t inside s", segment(0, 0, 4, 0), segment(1, 0, 1, 5), false, true, impl.Ratio{Num: 1, Den: 4}},
		{"end of s inside t", segment(1, 0, 1, 5), segment(0, 0, 4, 0), false, true, impl.Ratio{Num: 0, Den: 1}},
		{"line through t, not t itself", segment(0, 0, 9, 0), segment(3, 5, 3, 6), false, false, impl.Ratio{Num: 1, Den: 3}},
		{"line through s, not s itself", segment(3, 5, 3, 6), segment(0, 0, 9, 0), false, false, none},
		{"an end of s beside t, on its line", segment(5, 0, 5, 3), segment(0, 0, 4, 0), false, false, impl.Ratio{Num: 0, Den: 1}},
		{"parallel", segment(0, 0, 4, 0), segment(0, 1, 4, 1), false, false, none},
		{"equal", segment(0, 0, 4, 4), segment(0, 0, 4, 4), false, true, none},
		{"opposite", segment(0, 0, 4, 4), segment(4, 4, 0, 0), false, true, none},
		{"overlap", segment(0, 0, 4, 4), segment(3, 3, 6, 6), false, true, none},
		{"t within s", segment(0, 0, 4, 4), segment(1, 1, 2, 2), false, true, none},
		{"s within t", segment(1, 1, 2, 2), segment(0, 0, 4, 4), false, true, none},
		{"end to end", segment(0, 0, 4, 4), segment(4, 4, 9, 9), false, true, none},
		{"one after the other", segment(0, 0, 4, 4), segment(5, 5, 9, 9), false, false, none},
		{"greatest diagonals", segment(-m, -m, m, m), segment(-m, m, m, -m), true, true, impl.Ratio{Num: 1, Den: 2}},
		{"nearly parallel", segment(-m, -m, m, m), segment(-m, 1-m, m, m-1), true, true, impl.Ratio{Num: 1, Den: 2}},
		{"nearly met", segment(-m, -m, m, m), segment(m, m-1, 0, -1), false, false, none},
		{"a great denominator", segment(-m, -m, m, m-1), segment(-m, m, m-1, -m), true, true, impl.Ratio{Num: 3999998000000, Den: 7999996000001}},
	} {
		t.Run(c.name, func(t *testing.T) {
			if x, code := impl.SegmentsCross(c.s, c.t); code != impl.ErrNone || x != c.cross {
				t.Error("SegmentsCross", x, code)
			}
			if x, code := impl.SegmentsMeet(c.s, c.t); code != impl.ErrNone || x != c.meet {
				t.Error("SegmentsMeet", x, code)
			}
			wantCode := int64(impl.ErrNone)
			if c.place == none {
				wantCode = impl.ErrNotFound
			}
			if r, code := impl.CrossingPlace(c.s, c.t); code != wantCode || r != c.place {
				t.Error("CrossingPlace", r, code)
			}
			checkPair(t, c.s, c.t)
		})
	}
}

func TestAllPairsOfAGrid(t *testing.T) {
	segments := gridSegments()
	for _, s := range segments {
		for _, u := range segments {
			checkPair(t, s, u)
		}
	}
}

func TestPairsAtTheGreatestCoordinates(t *testing.T) {
	segments := farSegments()
	for _, s := range segments {
		for _, u := range segments {
			checkPair(t, s, u)
		}
	}
}

// The order and the directions of two segments do not matter to what they have in common.
func TestPairsAreSymmetric(t *testing.T) {
	segments := append(gridSegments(), farSegments()[:40]...)
	for _, s := range segments {
		for _, u := range segments {
			cross, _ := impl.SegmentsCross(s, u)
			meet, _ := impl.SegmentsMeet(s, u)
			for _, pair := range [][2]impl.Segment{{u, s}, {reversed(s), u}, {s, reversed(u)}} {
				if x, code := impl.SegmentsCross(pair[0], pair[1]); code != impl.ErrNone || x != cross {
					t.Fatalf("SegmentsCross(%v, %v) = %v, %d, want %v", pair[0], pair[1], x, code, cross)
				}
				if x, code := impl.SegmentsMeet(pair[0], pair[1]); code != impl.ErrNone || x != meet {
					t.Fatalf("SegmentsMeet(%v, %v) = %v, %d, want %v", pair[0], pair[1], x, code, meet)
				}
			}
		}
	}
}

func TestPairsWithAnInvalidSegment(t *testing.T) {
	// Parallel to some of the invalid ones: ErrInvalid comes before ErrNotFound.
	good := []impl.Segment{segment(0, 0, 4, 4), segment(-5, -3, 5, -3), segment(3, -impl.MaxCoord, 3, impl.MaxCoord)}
	for _, bad := range invalidSegments() {
		for _, other := range append(good, bad, reversed(bad)) {
			for _, pair := range [][2]impl.Segment{{bad, other}, {other, bad}} {
				if x, code := impl.SegmentsCross(pair[0], pair[1]); x || code != impl.ErrInvalid {
					t.Fatalf("SegmentsCross(%v, %v) = %v, %d, want ErrInvalid", pair[0], pair[1], x, code)
				}
				if x, code := impl.SegmentsMeet(pair[0], pair[1]); x || code != impl.ErrInvalid {
					t.Fatalf("SegmentsMeet(%v, %v) = %v, %d, want ErrInvalid", pair[0], pair[1], x, code)
				}
				if r, code := impl.CrossingPlace(pair[0], pair[1]); r != (impl.Ratio{}) || code != impl.ErrInvalid {
					t.Fatalf("CrossingPlace(%v, %v) = %v, %d, want ErrInvalid", pair[0], pair[1], r, code)
				}
			}
		}
	}
}
