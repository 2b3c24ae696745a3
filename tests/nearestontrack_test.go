package tests

import (
	"math/big"
	"math/rand"
	"testing"

	"loop.example/g00887/impl"
)

// floorAt rounds a + (b - a) * place down with big.Int's Div, which is Euclidean.
func floorAt(a, b int64, place *big.Rat) int64 {
	x := new(big.Rat).Mul(place, new(big.Rat).SetInt(bigDifference(b, a)))
	x.Add(x, new(big.Rat).SetInt64(a))
	return new(big.Int).Div(x.Num(), x.Denom()).Int64()
}

func expectedPoint(leg impl.Segment, p impl.Point) impl.Point {
	if leg.A == leg.B {
		return leg.A
	}
	place := expectedNearest(leg, p)
	return impl.Point{X: floorAt(leg.A.X, leg.B.X, place), Y: floorAt(leg.A.Y, leg.B.Y, place)}
}

// expectedNearestOnTrack goes from the last leg to the first one.
func expectedNearestOnTrack(m impl.Mark, track impl.Track) (int64, impl.Point) {
	nearest, point := int64(-1), impl.Point{}
	for k := len(track.Fixes) - 2; k >= 0; k-- {
		p := expectedPoint(legOf(track, k), m.At)
		if nearest < 0 || bigSquareDistance(p, m.At).Cmp(bigSquareDistance(point, m.At)) <= 0 {
			nearest, point = int64(k), p
		}
	}
	return nearest, point
}

func checkNearest(t *testing.T, c impl.Course, k int, track impl.Track) {
	t.Helper()
	want, point := expectedNearestOnTrack(c.Marks[k], track)
	if leg, p, code := impl.NearestOnTrack(c, int64(k), track); code != impl.ErrNone || leg != want || p != point {
		t.Fatalf("NearestOnTrack(%v, %d, %v) = %d, %v, %d, want %d, %v", c, k, track, leg, p, code, want, point)
	}
}

// The mark is at {0, 0}.
func TestNearestOnTrack(t *testing.T) {
	const m = impl.MaxCoord
	for _, row := range []struct {
		name  string
		track impl.Track
		leg   int64
		point impl.Point
	}{
		{"through the mark", trackOf(0, -9, -9, 10, -8, 4, 20, 8, -4, 30, 5, 5), 1, impl.Point{}},
		{"a fix at the mark", trackOf(0, -9, -9, 10, 0, 0, 20, 8, -4), 0, impl.Point{}},
		{"begins at the mark", trackOf(0, 0, 0, 10, 5, 0), 0, impl.Point{}},
		{"ends at the mark", trackOf(0, 5, 5, 5, 9, 1, 10, 0, 0), 1, impl.Point{}},
		{"stays at the mark", trackOf(0, 0, 0, 10, 0, 0), 0, impl.Point{}},
		{"passes beside it", trackOf(0, -9, 3, 10, 9, 3), 0, impl.Point{Y: 3}},
		{"nearest at its beginning", trackOf(0, 2, 1, 10, 9, 3), 0, impl.Point{X: 2, Y: 1}},
		{"nearest at its end", trackOf(0, -9, 5, 10, -8, 5, 20, -2, 4), 1, impl.Point{X: -2, Y: 4}},
		{"nearest at a fix between two legs", trackOf(0, 9, 3, 10, 3, 1, 20, 8, -4), 0, impl.Point{X: 3, Y: 1}},
		{"the same way there and back", trackOf(0, -9, 3, 10, 9, 3, 20, -9, 3), 0, impl.Point{Y: 3}},
		{"equally near on both sides", trackOf(0, -9, 3, 10, 9, 3, 20, 9, -3, 30, -9, -3), 0, impl.Point{Y: 3}},
		{"equally near on both sides, from the other one", trackOf(0, 9, -3, 10, -9, -3, 20, -9, 3, 30, 9, 3), 0, impl.Point{Y: -3}},
		{"three equally near behind others", trackOf(0, 9, 9, 10, 5, 0, 20, 9, 9, 30, 4, 3, 40, 9, 9, 50, 0, 5), 0, impl.Point{X: 5}},
		{"the last leg is nearest", trackOf(0, 9, 9, 10, 8, 9, 20, 9, 8, 30, 7, 6), 2, impl.Point{X: 7, Y: 6}},
		{"equal distances rounded down, but not equal ones", trackOf(0, 2, 9, 10, 2, 2, 20, 2, 9, 30, 9, 0, 40, 2, 0), 3, impl.Point{X: 2}},
		{"a leg without length is nearest", trackOf(0, 9, 3, 10, 2, 1, 20, 2, 1, 30, 8, 8), 0, impl.Point{X: 2, Y: 1}},
		{"begins without a way", trackOf(0, 2, 1, 10, 2, 1, 20, 8, 8), 0, impl.Point{X: 2, Y: 1}},
		{"a leg without length is farther", trackOf(0, 9, 9, 10, 9, 9, 20, 1, 1), 1, impl.Point{X: 1, Y: 1}},
		{"only legs without length", trackOf(0, -7, 9, 10, -7, 9, 20, -7, 9), 0, impl.Point{X: -7, Y: 9}},
		{"{3/5, 4/5} rounded down", trackOf(0, -1, 2, 10, 3, -1), 0, impl.Point{}},
		{"{-3/5, -4/5} rounded down", trackOf(0, -3, 1, 10, 1, -2), 0, impl.Point{X: -1, Y: -1}},
		{"{-3/5, 4/5} rounded down", trackOf(0, 1, 2, 10, -3, -1), 0, impl.Point{X: -1}},
		{"{3/5, -4/5} rounded down, backward", trackOf(0, 3, 1, 10, -1, -2), 0, impl.Point{Y: -1}},
		// Without the rounding, the first leg is nearest, at {-3/25, -4/25}.
		{"a farther one is nearest after the rounding", trackOf(0, 1, -1, 10, -3, 2, 20, 1, 2, 30, 1, 0), 2, impl.Point{X: 1}},
		// Without the rounding, both legs are equally near.
		{"the second is nearest after the rounding", trackOf(0, -3, 1, 10, 1, -2, 20, 3, -1, 30, -1, 2), 2, impl.Point{}},
		{"along the greatest diagonal", trackOf(0, -m, -m, 5, m, m), 0, impl.Point{}},
		{"from the farthest points", trackOf(0, m, m, 5, m, m-1, 9, m, m), 0, impl.Point{X: m, Y: m - 1}},
		{"beside the greatest diagonal", trackOf(0, -m, 1-m, 5, m-1, m), 0, impl.Point{X: -1}},
		{"beside the greatest diagonal, on the other side", trackOf(0, 1-m, -m, 5, m, m-1), 0, impl.Point{Y: -1}},
	} {
		t.Run(row.name, func(t *testing.T) {
			c := zoneCourse(0, 0, 5)
			if leg, p, code := impl.NearestOnTrack(c, 0, row.track); code != impl.ErrNone || leg != row.leg || p != row.point {
				t.Errorf("NearestOnTrack(%v, 0, %v) = %d, %v, %d, want %d, %v", c, row.track, leg, p, code, row.leg, row.point)
			}
			checkNearest(t, c, 0, row.track)
		})
	}
}

// The zone does not matter for the nearest point.
func TestNearestOnTrackOfAllZones(t *testing.T) {
	track := trackOf(0, -900, 300, 10, 900, 300, 20, 900, -200, 30, -900, -200)
	for _, zone := range []int64{1, 199, 200, 300, impl.MaxZone} {
		c := zoneCourse(7, 0, zone)
		if leg, p, code := impl.NearestOnTrack(c, 0, track); code != impl.ErrNone || leg != 2 || p != (impl.Point{X: 7, Y: -200}) {
			t.Errorf("NearestOnTrack(%v, 0, %v) = %d, %v, %d", c, track, leg, p, code)
		}
	}
}

func TestNearestOnAllTracks(t *testing.T) {
	for _, c := range validCourses() {
		for k, m := range c.Marks {
			for _, track := range append(validTracks(), stay(m.At), zigzag(impl.MaxFixes)) {
				checkNearest(t, c, k, track)
			}
		}
	}
	random := rand.New(rand.NewSource(15))
	for range 2000 {
		checkNearest(t, zoneCourseAt(random), 0, randomTrack(random))
	}
	for range 500 {
		at := randomPoint(random, impl.MaxCoord)
		track := impl.Track{}
		for k := range int64(2 + random.Intn(5)) {
			p := randomPoint(random, impl.MaxCoord)
			track.Fixes = append(track.Fixes, impl.Fix{Time: k, X: p.X, Y: p.Y})
		}
		checkNearest(t, zoneCourse(at.X, at.Y, impl.MaxZone), 0, track)
	}
}
