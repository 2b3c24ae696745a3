package tests

import (
	"math/rand"
	"slices"
	"testing"

	"loop.example/g00887/impl"
)

// expectedFirstBoat returns -1 if no boat touches the zone.
func expectedFirstBoat(m impl.Mark, tracks []impl.Track) int64 {
	first, earliest := int64(-1), int64(impl.MaxTime+1)
	for boat, track := range tracks {
		legs := expectedLegs(m, track)
		if len(legs) > 0 && track.Fixes[legs[0]].Time < earliest {
			first, earliest = int64(boat), track.Fixes[legs[0]].Time
		}
	}
	return first
}

func checkFirstBoat(t *testing.T, c impl.Course, k int, tracks []impl.Track, want int64) {
	t.Helper()
	n, code := impl.FirstToZone(c, int64(k), tracks)
	if want < 0 && (code != impl.ErrNotFound || n != 0) || want >= 0 && (code != impl.ErrNone || n != want) {
		t.Fatalf("FirstToZone(%v, %d, %v) = %d, %d, want %d", c, k, tracks, n, code, want)
	}
}

// The mark is at {0, 0}.
func TestFirstToZone(t *testing.T) {
	away := trackOf(0, 9, 9, 10, 9, 8, 20, 8, 9)
	// The numbers are the times at which the legs begin that touch the zone.
	at0, at10, at20 := trackOf(0, -9, 0, 10, 9, 0), trackOf(0, -9, 9, 10, -9, 0, 20, 9, 0), trackOf(0, -9, 9, 5, -9, 8, 20, -9, 0, 30, 9, 0)
	inside, long := trackOf(0, 1, 1, 10, 9, 9), trackOf(0, -9, 0, 900, 0, 0)
	twice := trackOf(12, -9, 0, 14, 9, 0, 16, 9, 1, 18, -9, 1)
	touching, beside := trackOf(3, 5, 9, 4, 5, -9), trackOf(3, 6, 9, 4, 6, -9)
	for _, row := range []struct {
		name   string
		tracks []impl.Track
		want   int64
	}{
		{"no track", nil, -1},
		{"no track, but memory", make([]impl.Track, 0, 3), -1},
		{"one that stays away", []impl.Track{away}, -1},
		{"all stay away", []impl.Track{away, beside, away, away}, -1},
		{"one", []impl.Track{at10}, 0},
		{"one that starts in the zone", []impl.Track{inside}, 0},
		{"the others stay away", []impl.Track{away, away, at20, away}, 2},
		{"the last one, in front of it only such as stay away", []impl.Track{away, away, away, twice}, 3},
		{"the last one is earliest", []impl.Track{at20, at10, at0}, 2},
		{"the middle one is earliest", []impl.Track{at20, at0, at10}, 1},
		{"the first one is earliest", []impl.Track{at0, at20, at10}, 0},
		{"behind one that stays away", []impl.Track{away, at10, at20}, 1},
		{"two at the same time", []impl.Track{at20, at10, at10, at20}, 1},
		{"at the time 0 twice", []impl.Track{away, at10, inside, at0}, 2},
		{"at the time 0 twice in the other order", []impl.Track{away, at10, at0, inside}, 2},
		{"the leg begins at the same time, but reaches the zone later", []impl.Track{long, inside}, 0},
		{"the leg begins earlier, but reaches the zone later", []impl.Track{later(inside, 1), long}, 1},
		{"one later", []impl.Track{later(at10, 1), at10}, 1},
		{"only the first visit counts", []impl.Track{twice, later(at10, 1)}, 1},
		{"the first of two visits", []impl.Track{later(at10, 3), twice}, 1},
		{"a later leg of another track begins earlier", []impl.Track{later(at0, 25), at20}, 1},
		{"an earlier leg of another track begins earlier", []impl.Track{at20, later(at0, 15)}, 1},
		{"touching at the radius", []impl.Track{at10, beside, touching}, 2},
		{"at the greatest times", []impl.Track{trackOf(0, 9, 9, impl.MaxTime-1, 9, 0, impl.MaxTime, -9, 0), trackOf(impl.MaxTime-2, 9, 0, impl.MaxTime, -9, 0)}, 1},
		{"only at the greatest time", []impl.Track{away, trackOf(0, 9, 9, impl.MaxTime-1, 9, 0, impl.MaxTime, -9, 0)}, 1},
	} {
		t.Run(row.name, func(t *testing.T) {
			checkFirstBoat(t, zoneCourse(0, 0, 5), 0, row.tracks, row.want)
			if n := expectedFirstBoat(zoneCourse(0, 0, 5).Marks[0], row.tracks); n != row.want {
				t.Errorf("the tests expect %d", n)
			}
		})
	}
}

func TestFirstOfTheGreatestNumberOfBoats(t *testing.T) {
	c := zoneCourse(0, 0, 5)
	for first := range impl.MaxBoats {
		tracks := []impl.Track{}
		for k := range impl.MaxBoats {
			tracks = append(tracks, later(trackOf(0, -9, 0, 10, 9, 0), int64((k-first+impl.MaxBoats)%impl.MaxBoats)))
		}
		checkFirstBoat(t, c, 0, tracks, int64(first))
		alone := slices.Repeat([]impl.Track{stay(impl.Point{X: 6})}, impl.MaxBoats)
		checkFirstBoat(t, c, 0, alone, -1)
		alone[first] = stay(impl.Point{X: 5})
		checkFirstBoat(t, c, 0, alone, int64(first))
	}
	for n := range impl.MaxBoats {
		checkFirstBoat(t, c, 0, slices.Repeat([]impl.Track{stay(impl.Point{})}, n+1), 0)
	}
}

// Each mark has its own zone.
func TestFirstToTheZonesOfACourse(t *testing.T) {
	c := course(line(-10, 0, 10, 0), line(0, 900, 20, 900),
		mark("a", 0, 100, impl.MarkPort, 10), mark("b", 0, 300, impl.MarkStarboard, 20), mark("c", 0, 500, impl.MarkPort, 30), mark("d", 0, 700, impl.MarkPort, 10))
	tracks := []impl.Track{trackOf(0, 0, 0, 10, 0, 200, 20, 0, 400), trackOf(0, 15, 0, 9, 15, 200, 20, 15, 400), trackOf(0, 99, 0, 5, 99, 500, 25, 25, 500, 90, 15, 700)}
	for k, want := range []int64{0, 1, 2, -1} {
		checkFirstBoat(t, c, k, tracks, want)
	}
	for k := range c.Marks {
		for _, track := range tracks {
			checkLegs(t, c, k, track, expectedLegs(c.Marks[k], track))
			checkNearest(t, c, k, track)
			checkZonePositions(t, c, k, track)
		}
	}
}

func TestFirstOfRandomTracks(t *testing.T) {
	random := rand.New(rand.NewSource(16))
	counts := map[bool]int{}
	for range 500 {
		at := randomPoint(random, 25)
		c, tracks := zoneCourse(at.X, at.Y, 1+random.Int63n(3)), []impl.Track{}
		for range random.Intn(impl.MaxBoats + 1) {
			track := randomTrack(random)
			track.Fixes = track.Fixes[:2+random.Intn(min(3, len(track.Fixes)-1))]
			tracks = append(tracks, later(track, random.Int63n(3)))
		}
		want := expectedFirstBoat(c.Marks[0], tracks)
		checkFirstBoat(t, c, 0, tracks, want)
		counts[want < 0]++
	}
	if counts[true] < 50 || counts[false] < 50 {
		t.Errorf("in %d regattas none touches the zone, in %d some do", counts[true], counts[false])
	}
}
