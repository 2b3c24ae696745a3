package tests

import (
	"math/big"
	"math/rand"
	"slices"
	"testing"

	"loop.example/g00887/impl"
)

func legOf(track impl.Track, k int) impl.Segment {
	f, g := track.Fixes[k], track.Fixes[k+1]
	return segment(f.X, f.Y, g.X, g.Y)
}

// touchesZone compares exact fractions.
func touchesZone(m impl.Mark, leg impl.Segment) bool {
	if leg.A == leg.B {
		return isInZone(m, leg.A)
	}
	square := squareDistanceAt(leg, expectedNearest(leg, m.At), m.At)
	return square.Cmp(big.NewRat(m.Zone*m.Zone, 1)) <= 0
}

func expectedLegs(m impl.Mark, track impl.Track) []int64 {
	legs := []int64{}
	for k := range len(track.Fixes) - 1 {
		if touchesZone(m, legOf(track, k)) {
			legs = append(legs, int64(k))
		}
	}
	return legs
}

// expectedVisits are the ranges of legs of which all are among those given and both neighbours are
// not.
func expectedVisits(legs []int64) [][]int64 {
	visits := [][]int64{}
	for i, first := range legs {
		for j, last := range legs {
			if last-first == int64(j-i) && !slices.Contains(legs, first-1) && !slices.Contains(legs, last+1) {
				visits = append(visits, []int64{first, last})
			}
		}
	}
	return visits
}

func sameVisits(a, b [][]int64) bool { return slices.EqualFunc(a, b, slices.Equal[[]int64]) }

// checkLegs checks all that is known of a track whose legs wanted touch the zone of the mark k.
func checkLegs(t *testing.T, c impl.Course, k int, track impl.Track, want []int64) {
	t.Helper()
	legs, code := impl.LegsInZone(c, int64(k), track)
	if code != impl.ErrNone || !slices.Equal(legs, want) {
		t.Fatalf("LegsInZone(%v, %d, %v) = %v, %d, want %v", c, k, track, legs, code, want)
	}
	visits, code := impl.VisitsOf(c, int64(k), track)
	if code != impl.ErrNone || !sameVisits(visits, expectedVisits(want)) {
		t.Fatalf("VisitsOf(%v, %d, %v) = %v, %d, want %v", c, k, track, visits, code, expectedVisits(want))
	}
}

func TestLegsThatTouchAZone(t *testing.T) {
	const m, zone = impl.MaxCoord, impl.MaxZone
	for _, row := range []struct {
		name    string
		zone    int64
		leg     impl.Segment
		touches bool
	}{
		{"at its beginning", 5, segment(5, 0, 9, 0), true},
		{"at its end, one farther", 5, segment(6, 0, 9, 0), false},
		{"at its end, not along an axis", 5, segment(3, 4, 5, 9), true},
		{"at its end, with a distance that rounds down to the radius", 5, segment(4, 4, 9, 5), false},
		{"at its end, 1 beside the nearest point", 5, segment(1, 5, 9, 5), false},
		{"past its end only", 5, segment(6, 0, 60, 1), false},
		{"inside", 5, segment(1, 1, -2, 3), true},
		{"from the mark", 5, segment(0, 0, 90, 80), true},
		{"out of the zone", 5, segment(1, 1, 90, 80), true},
		{"through the mark", 5, segment(-9, -9, 9, 9), true},
		{"across the zone", 5, segment(-9, 3, 9, 2), true},
		{"just on it between its ends", 5, segment(-9, 5, 9, 5), true},
		{"just on it between its ends, one farther", 5, segment(-9, 6, 9, 6), false},
		{"just on it, not along an axis", 5, segment(-1, 7, 7, 1), true},
		{"less than 1 farther", 5, segment(-1, 7, 8, 1), false},
		{"just on it between whole points", 1, segment(-1, 2, 3, -1), true},
		{"1/5 farther, between whole points", 1, segment(-2, 3, 2, 0), false},
		{"1/5 farther in the opposite direction", 1, segment(2, -3, -2, 0), false},
		{"passes the smallest zone at 1", 1, segment(-1, 1, 1, 1), true},
		{"passes the smallest zone at its end", 1, segment(1, 0, 2, 0), true},
		{"passes the smallest zone at the root of 2", 1, segment(1, 1, 2, 1), false},
		{"passes the smallest zone through its edge", 1, segment(1, -9, 1, 9), true},
		{"passes the greatest zone at its radius", zone, segment(-m, zone, m, zone), true},
		{"passes the greatest zone one farther", zone, segment(-m, zone+1, m, zone+1), false},
		{"passes the greatest zone at a little less", zone, segment(-m, zone-1, m, zone+1), true},
		{"passes the greatest zone at a little more", zone, segment(-m, zone, m, zone+1), false},
		{"touches the greatest zone at its end", zone, segment(-3000, 4000, -m, m), true},
		{"ends before the greatest zone", zone, segment(-3000, 4001, -m, m), false},
		{"passes the greatest zone far away", zone, segment(-m, m, m, m-1), false},
		{"without length at the mark", 5, segment(0, 0, 0, 0), true},
		{"without length inside", 5, segment(3, -3, 3, -3), true},
		{"without length at the radius", 5, segment(-3, 4, -3, 4), true},
		{"without length at the radius on an axis", 5, segment(0, -5, 0, -5), true},
		{"without length outside", 5, segment(0, -6, 0, -6), false},
		{"without length outside, with a distance that rounds down to the radius", 5, segment(5, 1, 5, 1), false},
		{"without length far outside", zone, segment(m, m, m, m), false},
		{"without length at the greatest radius", zone, segment(4800, 1400, 4800, 1400), true},
		{"without length beside the greatest radius", zone, segment(4800, 1401, 4800, 1401), false},
	} {
		for _, leg := range []impl.Segment{row.leg, reversed(row.leg)} {
			track := trackOf(0, leg.A.X, leg.A.Y, 9, leg.B.X, leg.B.Y)
			want := []int64{}
			if row.touches {
				want = []int64{0}
			}
			checkLegs(t, zoneCourse(0, 0, row.zone), 0, track, want)
			if touchesZone(mark("m", 0, 0, impl.MarkPort, row.zone), leg) != row.touches {
				t.Errorf("%s: the tests expect something else of %v", row.name, leg)
			}
		}
	}
}

func TestZonesAtTheGreatestCoordinates(t *testing.T) {
	const m, zone = impl.MaxCoord, impl.MaxZone
	corner := zoneCourse(m, m, zone)
	checkLegs(t, corner, 0, trackOf(0, m, m-zone, 5, -m, -m, 9, m-3000, m-4000), []int64{0, 1})
	checkLegs(t, corner, 0, trackOf(0, m, m-zone-1, 5, -m, -m, 9, m-3000, m-4001), nil)
	checkLegs(t, corner, 0, trackOf(0, m-zone, -m, 5, m-zone, m, 9, m-zone-1, m, 12, m-zone-1, -m), []int64{0, 1})
	// The diagonal passes at 100 times the root of 2, which is between 141 and 142.
	checkLegs(t, zoneCourse(100, -100, 141), 0, trackOf(0, -m, -m, impl.MaxTime, m, m), nil)
	checkLegs(t, zoneCourse(100, -100, 142), 0, trackOf(0, -m, -m, impl.MaxTime, m, m), []int64{0})
}

// patternTrack crosses from one side of the mark at {0, 0} to the other one on each leg whose bit
// is set, and stays on its side on the others.
func patternTrack(bits []bool) impl.Track {
	x := int64(-50)
	track := trackOf(0, x, 0)
	for k, bit := range bits {
		if bit {
			x = -x
		}
		track.Fixes = append(track.Fixes, impl.Fix{Time: int64(k+1) * 10, X: x, Y: int64(k%2) * 2})
	}
	return track
}

func checkPattern(t *testing.T, bits []bool) {
	t.Helper()
	want := []int64{}
	for k, bit := range bits {
		if bit {
			want = append(want, int64(k))
		}
	}
	checkLegs(t, zoneCourse(0, 1, 7), 0, patternTrack(bits), want)
}

func TestVisitsInAllPatterns(t *testing.T) {
	for n := 1; n <= 9; n++ {
		for pattern := range 1 << n {
			bits := make([]bool, n)
			for k := range bits {
				bits[k] = pattern>>k&1 == 1
			}
			checkPattern(t, bits)
		}
	}
	random := rand.New(rand.NewSource(12))
	for share := range 40 {
		bits := make([]bool, impl.MaxFixes-1)
		for k := range bits {
			bits[k] = random.Intn(39) < share
		}
		checkPattern(t, bits)
	}
}

func TestVisitsOf(t *testing.T) {
	c := zoneCourse(0, 0, 5)
	for _, row := range []struct {
		name  string
		track impl.Track
		want  [][]int64
	}{
		{"none", trackOf(0, 9, 9, 10, 9, 8, 20, 9, 7), nil},
		{"one leg, the only one", trackOf(0, -9, 0, 10, 9, 0), [][]int64{{0, 0}}},
		{"one leg in the middle", trackOf(0, -9, 9, 10, -9, 0, 20, 9, 0, 30, 9, 9), [][]int64{{1, 1}}},
		{"at the beginning", trackOf(0, -9, 0, 10, 9, 0, 20, 9, 9), [][]int64{{0, 0}}},
		{"at the end", trackOf(0, 9, 9, 10, 9, 0, 20, -9, 0), [][]int64{{1, 1}}},
		{"two legs with a fix inside", trackOf(0, -9, 0, 10, 1, 0, 20, 9, 9), [][]int64{{0, 1}}},
		{"all of the track", trackOf(0, 0, 0, 10, 1, 0, 20, 1, 1, 30, 0, 1), [][]int64{{0, 2}}},
		{"with a leg without length", trackOf(0, -9, 0, 10, 1, 0, 20, 1, 0, 30, -9, 0), [][]int64{{0, 2}}},
		{"interrupted by a leg without length", trackOf(0, -9, 0, 10, 9, 0, 20, 9, 0, 30, -9, 0), [][]int64{{0, 0}, {2, 2}}},
		{"two with a leg between them", trackOf(0, -9, 0, 10, 9, 0, 20, 9, 1, 30, -9, 1), [][]int64{{0, 0}, {2, 2}}},
		{"out of the zone and back through its edge only", trackOf(0, 5, 0, 10, 9, 0, 20, 5, 0), [][]int64{{0, 1}}},
		{"two long ones", trackOf(0, 9, 9, 10, 0, 0, 20, 1, 0, 30, 9, 0, 40, 9, 1, 50, -9, 1, 60, 9, 1), [][]int64{{0, 2}, {4, 5}}},
	} {
		t.Run(row.name, func(t *testing.T) {
			visits, code := impl.VisitsOf(c, 0, row.track)
			if code != impl.ErrNone || !sameVisits(visits, row.want) {
				t.Errorf("VisitsOf(%v, 0, %v) = %v, %d, want %v", c, row.track, visits, code, row.want)
			}
			checkLegs(t, c, 0, row.track, expectedLegs(c.Marks[0], row.track))
		})
	}
}

func TestLegsOnAllCourses(t *testing.T) {
	for _, c := range validCourses() {
		for k, m := range c.Marks {
			tracks := append(validTracks(), stay(m.At), zigzag(impl.MaxFixes))
			for _, track := range tracks {
				checkLegs(t, c, k, track, expectedLegs(m, track))
			}
		}
	}
}

// zoneCourseAt has a mark near to the tracks of randomTrack.
func zoneCourseAt(random *rand.Rand) impl.Course {
	at := randomPoint(random, 12)
	return zoneCourse(at.X, at.Y, 1+random.Int63n(9))
}

func TestLegsOfRandomTracks(t *testing.T) {
	random := rand.New(rand.NewSource(13))
	for range 1500 {
		c, track := zoneCourseAt(random), randomTrack(random)
		checkLegs(t, c, 0, track, expectedLegs(c.Marks[0], track))
		checkZonePositions(t, c, 0, track)
	}
}

// checkFixesInZone checks that a boat in the zone at a fix has a leg that touches it on each side
// of the fix.
func checkFixesInZone(t *testing.T, c impl.Course, k int, track impl.Track) int {
	t.Helper()
	legs, code := impl.LegsInZone(c, int64(k), track)
	if code != impl.ErrNone {
		t.Fatalf("LegsInZone(%v, %d, %v): code %d", c, k, track, code)
	}
	found := 0
	for n, fix := range track.Fixes {
		in, code := impl.InZoneAt(c, int64(k), track, fix.Time)
		if code != impl.ErrNone {
			t.Fatalf("InZoneAt(%v, %d, %v, %d): code %d", c, k, track, fix.Time, code)
		}
		if !in {
			continue
		}
		found++
		hasNext := n == len(track.Fixes)-1 || slices.Contains(legs, int64(n))
		hasLast := n == 0 || slices.Contains(legs, int64(n-1))
		if !hasNext || !hasLast {
			t.Fatalf("in %v, %v is in the zone of the mark %d at the fix %d, but its legs that touch it are %v", c, track, k, n, legs)
		}
	}
	return found
}

func TestBoatsInAZoneAtAFixTouchIt(t *testing.T) {
	found := 0
	for _, c := range validCourses() {
		for k, m := range c.Marks {
			for _, track := range append(validTracks(), stay(m.At), zigzag(impl.MaxFixes)) {
				found += checkFixesInZone(t, c, k, track)
			}
		}
	}
	random := rand.New(rand.NewSource(14))
	for range 1000 {
		found += checkFixesInZone(t, zoneCourseAt(random), 0, randomTrack(random))
	}
	if found < 5000 {
		t.Errorf("only %d fixes are in a zone", found)
	}
}

// Between the fixes a position may be rounded into the zone: the leg passes {1, 1}, and the
// position at 5 is {0, 1}, for {1/2, 3/2}.
func TestRoundedPositionsInAZone(t *testing.T) {
	c, track := zoneCourse(0, 0, 1), trackOf(0, 3, -1, 8, -1, 3)
	if in, code := impl.InZoneAt(c, 0, track, 5); code != impl.ErrNone || !in {
		t.Errorf("InZoneAt(.., 5) = %v, %d", in, code)
	}
	checkLegs(t, c, 0, track, nil)
}
