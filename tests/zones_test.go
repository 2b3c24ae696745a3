package tests

import (
	"math/big"
	"testing"

	"loop.example/g00887/impl"
)

func bigSquareDistance(p, q impl.Point) *big.Int {
	way := bigWay(p, q)
	return way.dot(way)
}

func isInZone(m impl.Mark, p impl.Point) bool {
	return bigSquareDistance(p, m.At).Cmp(bigProduct(big.NewInt(m.Zone), big.NewInt(m.Zone))) <= 0
}

// zoneCourse has one mark, and its other stations far away.
func zoneCourse(x, y, zone int64) impl.Course {
	const m = impl.MaxCoord
	return course(line(-m, 3, -m, 5), line(1-m, 3, 1-m, 5), mark("only", x, y, impl.MarkPort, zone))
}

// stay is the track of a boat that does not move.
func stay(p impl.Point) impl.Track { return trackOf(10, p.X, p.Y, 20, p.X, p.Y) }

var someHulls = []int64{1, 2, 7, 35, 999, impl.MaxHullLength}

var badHulls = append([]int64{-1, 0, impl.MaxHullLength + 1, -impl.MaxHullLength, 1 + 1<<32}, extremes...)

// checkZonePositions checks all that is known of a boat and a mark at the times of its track.
func checkZonePositions(t *testing.T, c impl.Course, k int, track impl.Track) {
	t.Helper()
	m := c.Marks[k]
	for _, time := range timesWithin(track) {
		p := expectedPosition(track, time)
		if in, code := impl.InZoneAt(c, int64(k), track, time); code != impl.ErrNone || in != isInZone(m, p) {
			t.Fatalf("InZoneAt(%v, %d, %v, %d) = %v, %d, but the position is %v", c, k, track, time, in, code, p)
		}
		n, code := impl.DistanceToMark(c, int64(k), track, time)
		if code != impl.ErrNone || !isLength(n, p, m.At) {
			t.Fatalf("DistanceToMark(%v, %d, %v, %d) = %d, %d, but the position is %v", c, k, track, time, n, code, p)
		}
		for _, hull := range someHulls {
			x, code := impl.LengthsToMark(c, int64(k), track, time, hull)
			if code != impl.ErrNone || x*hull > n || n >= (x+1)*hull {
				t.Fatalf("LengthsToMark(%v, %d, %v, %d, %d) = %d, %d, but the distance is %d", c, k, track, time, hull, x, code, n)
			}
		}
	}
	for _, time := range timesOutside(track) {
		refusePosition(t, c, int64(k), track, time, impl.ErrRange)
	}
}

// refusePosition checks that the functions with a time return a code for all lengths of hulls, and
// nothing beside it.
func refusePosition(t *testing.T, c impl.Course, k int64, track impl.Track, time, want int64) {
	t.Helper()
	if in, code := impl.InZoneAt(c, k, track, time); in || code != want {
		t.Fatalf("InZoneAt(%v, %d, %v, %d) = %v, %d, want the code %d", c, k, track, time, in, code, want)
	}
	if n, code := impl.DistanceToMark(c, k, track, time); n != 0 || code != want {
		t.Fatalf("DistanceToMark(%v, %d, %v, %d) = %d, %d, want the code %d", c, k, track, time, n, code, want)
	}
	for _, hull := range []int64{1, 10, impl.MaxHullLength} {
		refuseLengths(t, c, k, track, time, hull, want)
	}
	for _, hull := range badHulls {
		refuseLengths(t, c, k, track, time, hull, want)
	}
}

func refuseLengths(t *testing.T, c impl.Course, k int64, track impl.Track, time, hull, want int64) {
	t.Helper()
	if n, code := impl.LengthsToMark(c, k, track, time, hull); n != 0 || code != want {
		t.Fatalf("LengthsToMark(%v, %d, %v, %d, %d) = %d, %d, want the code %d", c, k, track, time, hull, n, code, want)
	}
}

func TestMaxHullLength(t *testing.T) {
	if impl.MaxHullLength != 1000 {
		t.Error(impl.MaxHullLength)
	}
}

// The distances are rounded down: one that is equal to the radius need not be in the zone.
func TestPositionsAndZones(t *testing.T) {
	const m, zone = impl.MaxCoord, impl.MaxZone
	for _, row := range []struct {
		at       impl.Point
		zone     int64
		p        impl.Point
		isIn     bool
		distance int64
	}{
		{impl.Point{}, 1, impl.Point{}, true, 0},
		{impl.Point{}, 1, impl.Point{X: 1}, true, 1}, {impl.Point{}, 1, impl.Point{Y: -1}, true, 1},
		{impl.Point{}, 1, impl.Point{X: 1, Y: -1}, false, 1}, {impl.Point{}, 1, impl.Point{X: -2}, false, 2},
		{impl.Point{}, 5, impl.Point{X: 5}, true, 5}, {impl.Point{}, 5, impl.Point{Y: 5}, true, 5}, {impl.Point{}, 5, impl.Point{X: -5}, true, 5},
		{impl.Point{}, 5, impl.Point{X: 3, Y: 4}, true, 5}, {impl.Point{}, 5, impl.Point{X: -4, Y: 3}, true, 5}, {impl.Point{}, 5, impl.Point{X: -3, Y: -4}, true, 5},
		{impl.Point{}, 5, impl.Point{X: 6}, false, 6}, {impl.Point{}, 5, impl.Point{Y: -6}, false, 6},
		{impl.Point{}, 5, impl.Point{X: 5, Y: 1}, false, 5}, {impl.Point{}, 5, impl.Point{X: 4, Y: 4}, false, 5}, {impl.Point{}, 5, impl.Point{X: -5, Y: -3}, false, 5},
		{impl.Point{}, 5, impl.Point{X: 2, Y: 4}, true, 4}, {impl.Point{}, 5, impl.Point{X: 5, Y: 4}, false, 6},
		{impl.Point{X: 7, Y: -9}, 5, impl.Point{X: 10, Y: -5}, true, 5}, {impl.Point{X: 7, Y: -9}, 5, impl.Point{X: 11, Y: -5}, false, 5},
		{impl.Point{}, zone, impl.Point{X: zone}, true, zone}, {impl.Point{}, zone, impl.Point{X: -3000, Y: 4000}, true, zone}, {impl.Point{}, zone, impl.Point{X: 4800, Y: -1400}, true, zone},
		{impl.Point{}, zone, impl.Point{X: zone, Y: 1}, false, zone}, {impl.Point{}, zone, impl.Point{X: -3001, Y: 4000}, false, zone}, {impl.Point{}, zone, impl.Point{Y: zone + 1}, false, zone + 1},
		{impl.Point{}, zone - 1, impl.Point{X: zone - 1}, true, zone - 1}, {impl.Point{}, zone - 1, impl.Point{X: zone}, false, zone},
		{impl.Point{X: m, Y: m}, zone, impl.Point{X: m, Y: m}, true, 0}, {impl.Point{X: m, Y: m}, zone, impl.Point{X: m - 3000, Y: m - 4000}, true, zone},
		{impl.Point{X: m, Y: m}, zone, impl.Point{X: m - 3000, Y: m - 4001}, false, zone}, {impl.Point{X: m, Y: m}, zone, impl.Point{X: -m, Y: -m}, false, 2828427},
		{impl.Point{X: -m, Y: m}, 1, impl.Point{X: 1 - m, Y: m}, true, 1}, {impl.Point{X: -m, Y: m}, 1, impl.Point{X: 1 - m, Y: m - 1}, false, 1},
		{impl.Point{X: m, Y: -m}, 1, impl.Point{X: -m, Y: -m}, false, 2 * m},
	} {
		c, track := zoneCourse(row.at.X, row.at.Y, row.zone), stay(row.p)
		checkZonePositions(t, c, 0, track)
		for _, time := range []int64{10, 15, 20} {
			if in, code := impl.InZoneAt(c, 0, track, time); code != impl.ErrNone || in != row.isIn {
				t.Errorf("InZoneAt(%v, 0, %v, %d) = %v, %d", c, track, time, in, code)
			}
			if n, code := impl.DistanceToMark(c, 0, track, time); code != impl.ErrNone || n != row.distance {
				t.Errorf("DistanceToMark(%v, 0, %v, %d) = %d, %d, want %d", c, track, time, n, code, row.distance)
			}
		}
	}
}

func TestAllPositionsAroundAMark(t *testing.T) {
	for zone := int64(1); zone <= 8; zone++ {
		c := zoneCourse(3, -2, zone)
		for x := int64(-6); x <= 12; x++ {
			for y := int64(-11); y <= 7; y++ {
				checkZonePositions(t, c, 0, trackOf(0, x, y, 1, -y, x))
			}
		}
	}
}

// The track is to the west of the mark at the time 0 and to the east of it at 20. Between the
// fixes its positions are rounded down, that is to the west.
func TestTimesInZones(t *testing.T) {
	c := zoneCourse(0, 0, 1)
	track := trackOf(0, -3, 0, 10, 3, 0, 20, 3, -8)
	for _, row := range []struct {
		time     int64
		isIn     bool
		distance int64
	}{
		{0, false, 3}, {1, false, 3}, {2, false, 2},
		{3, false, 2}, {4, true, 1}, {5, true, 0}, {6, true, 0},
		{7, true, 1}, {8, true, 1}, {9, false, 2},
		{10, false, 3}, {11, false, 3}, {15, false, 5}, {20, false, 8},
	} {
		if in, code := impl.InZoneAt(c, 0, track, row.time); code != impl.ErrNone || in != row.isIn {
			t.Errorf("InZoneAt(.., %d) = %v, %d, want %v", row.time, in, code, row.isIn)
		}
		if n, code := impl.DistanceToMark(c, 0, track, row.time); code != impl.ErrNone || n != row.distance {
			t.Errorf("DistanceToMark(.., %d) = %d, %d, want %d", row.time, n, code, row.distance)
		}
	}
	checkZonePositions(t, c, 0, track)
	for _, late := range []impl.Track{trackOf(7, 0, 0, 9, 0, 0), trackOf(0, 0, 0, impl.MaxTime, 0, 0), trackOf(impl.MaxTime-1, 1, 0, impl.MaxTime, 0, 1)} {
		checkZonePositions(t, c, 0, late)
		for time, want := range map[int64]int64{firstTime(late) - 1: impl.ErrRange, firstTime(late): impl.ErrNone, lastTime(late): impl.ErrNone, lastTime(late) + 1: impl.ErrRange} {
			if in, code := impl.InZoneAt(c, 0, late, time); code != want || in != (want == impl.ErrNone) {
				t.Errorf("InZoneAt(%v, 0, %v, %d) = %v, %d, want the code %d", c, late, time, in, code, want)
			}
		}
	}
}

func TestPositionsOnAllCourses(t *testing.T) {
	for _, c := range validCourses() {
		for k := range c.Marks {
			for _, track := range append(farTracks(), windingTrack(impl.MaxFixes, 3), stay(c.Marks[k].At), zigzag(9)) {
				checkZonePositions(t, c, k, track)
			}
		}
	}
}

func TestLengthsToMark(t *testing.T) {
	const m = impl.MaxCoord
	for _, row := range []struct{ distance, hull, want int64 }{
		{35, 10, 3}, {30, 10, 3}, {29, 10, 2}, {39, 10, 3}, {40, 10, 4}, {35, 35, 1}, {35, 36, 0}, {35, 34, 1}, {35, 1, 35}, {35, 1000, 0},
		{0, 1, 0}, {0, 10, 0}, {0, 1000, 0}, {1, 1, 1}, {1, 2, 0}, {999, 1000, 0}, {1000, 1000, 1}, {1999, 1000, 1}, {2000, 1000, 2}, {m, 1, m}, {m, 7, 142857}, {m, 1000, 1000},
	} {
		c, track := zoneCourse(0, 0, 5), stay(impl.Point{X: row.distance})
		if n, code := impl.LengthsToMark(c, 0, track, 12, row.hull); code != impl.ErrNone || n != row.want {
			t.Errorf("LengthsToMark(.., %d) at the distance %d = %d, %d, want %d", row.hull, row.distance, n, code, row.want)
		}
	}
	// The distance is rounded down before it is divided.
	far, diagonal := zoneCourse(m, m, 5), zoneCourse(-3, 8, 5)
	for hull, want := range map[int64]int64{1: 2828427, 2: 1414213, 1000: 2828} {
		if n, code := impl.LengthsToMark(far, 0, stay(impl.Point{X: -m, Y: -m}), 10, hull); code != impl.ErrNone || n != want {
			t.Errorf("LengthsToMark(.., %d) from the farthest point = %d, %d, want %d", hull, n, code, want)
		}
	}
	if n, code := impl.LengthsToMark(diagonal, 0, stay(impl.Point{X: 4, Y: 1}), 20, 9); code != impl.ErrNone || n != 1 {
		t.Errorf("LengthsToMark of the distance 9 = %d, %d, want 1", n, code)
	}
}

func TestLengthsOfHullsOutOfRange(t *testing.T) {
	c, track := plainCourse(), trackOf(5, 30, 40, 15, 90, 120)
	for _, hull := range badHulls {
		for _, time := range append([]int64{4, 5, 10, 15, 16, -1}, extremes...) {
			refuseLengths(t, c, 0, track, time, hull, impl.ErrRange)
			refuseLengths(t, c, 1, track, time, hull, impl.ErrNotFound)
			refuseLengths(t, c, -1, track, time, hull, impl.ErrNotFound)
			refuseLengths(t, c, 0, impl.Track{}, time, hull, impl.ErrInvalid)
			refuseLengths(t, impl.Course{}, 0, track, time, hull, impl.ErrInvalid)
		}
	}
}
