package tests

import (
	"slices"
	"testing"

	"loop.example/g00887/impl"
)

func refuseLegs(t *testing.T, c impl.Course, k int64, track impl.Track, want int64) {
	t.Helper()
	if legs, code := impl.LegsInZone(c, k, track); len(legs) != 0 || code != want {
		t.Fatalf("LegsInZone(%v, %d, %v) = %v, %d, want the code %d", c, k, track, legs, code, want)
	}
	if visits, code := impl.VisitsOf(c, k, track); len(visits) != 0 || code != want {
		t.Fatalf("VisitsOf(%v, %d, %v) = %v, %d, want the code %d", c, k, track, visits, code, want)
	}
	if leg, p, code := impl.NearestOnTrack(c, k, track); leg != 0 || p != (impl.Point{}) || code != want {
		t.Fatalf("NearestOnTrack(%v, %d, %v) = %d, %v, %d, want the code %d", c, k, track, leg, p, code, want)
	}
}

func refuseFirst(t *testing.T, c impl.Course, k int64, tracks []impl.Track, want int64) {
	t.Helper()
	if n, code := impl.FirstToZone(c, k, tracks); n != 0 || code != want {
		t.Fatalf("FirstToZone(%v, %d, %v) = %d, %d, want the code %d", c, k, tracks, n, code, want)
	}
}

// refuseZone checks that all functions of the chapter return a code, ahead of that for the time,
// and nothing beside it.
func refuseZone(t *testing.T, c impl.Course, k int64, track impl.Track, want int64) {
	t.Helper()
	refuseLegs(t, c, k, track, want)
	for _, time := range append([]int64{-1, 0, 7, impl.MaxTime + 1}, extremes[0], extremes[3]) {
		refusePosition(t, c, k, track, time, want)
	}
	good := stay(impl.Point{})
	full := slices.Repeat([]impl.Track{good}, impl.MaxBoats)
	full[impl.MaxBoats-1] = track
	for _, tracks := range [][]impl.Track{{track}, {track, good}, {good, track}, {good, track, good}, full} {
		refuseFirst(t, c, k, tracks, want)
	}
}

// marksBeside are the numbers of no mark of a course, the nearest ones first.
func marksBeside(c impl.Course) []int64 {
	n := int64(len(c.Marks))
	return append([]int64{-1, n, n + 1, -n - 1, impl.MaxMarks, impl.MaxMarks + 1, 1 << 32, -1 << 32}, extremes...)
}

func TestZonesOfMarksThatAreNotThere(t *testing.T) {
	for _, c := range validCourses() {
		for _, k := range marksBeside(c) {
			for _, track := range []impl.Track{windingTrack(5, 2), stay(c.Marks[0].At)} {
				refuseZone(t, c, k, track, impl.ErrNotFound)
			}
			refuseFirst(t, c, k, nil, impl.ErrNotFound)
		}
		for _, k := range []int{0, len(c.Marks) - 1} {
			checkZonePositions(t, c, k, windingTrack(5, 2))
			checkLegs(t, c, k, stay(c.Marks[k].At), []int64{0})
			checkFirstBoat(t, c, k, []impl.Track{stay(c.Marks[k].At)}, 0)
		}
	}
}

// ErrInvalid comes ahead of ErrNotFound.
func TestZoneFunctionsRefuseInvalidCourses(t *testing.T) {
	good := windingTrack(5, 2)
	for _, c := range invalidCourses() {
		for _, k := range []int64{0, int64(len(c.Marks)) - 1, int64(len(c.Marks)), -1} {
			refuseZone(t, c, k, good, impl.ErrInvalid)
		}
		refuseZone(t, c, 0, impl.Track{}, impl.ErrInvalid)
		refuseFirst(t, c, 0, nil, impl.ErrInvalid)
	}
}

func TestZoneFunctionsRefuseInvalidTracks(t *testing.T) {
	for _, track := range invalidTracks() {
		for _, c := range []impl.Course{plainCourse(), windingCourse(3), zoneCourse(0, 0, impl.MaxZone)} {
			for _, k := range []int64{0, int64(len(c.Marks)) - 1, int64(len(c.Marks)), -1, extremes[3]} {
				refuseZone(t, c, k, track, impl.ErrInvalid)
			}
		}
	}
}

// The number of tracks counts ahead of all else.
func TestTooManyBoatsForAZone(t *testing.T) {
	for _, track := range []impl.Track{stay(impl.Point{}), {}, trackOf(5, 0, 0, 5, 1, 1)} {
		for _, n := range []int{impl.MaxBoats + 1, impl.MaxBoats + 2, 2 * impl.MaxBoats, 500} {
			tracks := slices.Repeat([]impl.Track{track}, n)
			for _, c := range append([]impl.Course{zoneCourse(0, 0, 5), {}}, invalidCourses()[:9]...) {
				for _, k := range append([]int64{0, 1, -1}, extremes...) {
					refuseFirst(t, c, k, tracks, impl.ErrLimit)
				}
			}
		}
	}
}

func TestZoneFunctionsKeepTheirArguments(t *testing.T) {
	courses := append(validCourses(), windingCourse(impl.MaxMarks+1))
	for _, c := range courses {
		for _, track := range []impl.Track{windingTrack(impl.MaxFixes, 0), stay(c.Marks[0].At), zigzag(9), trackOf(5, 0, 0, 5, 1, 1)} {
			roomy, marks := roomyCourse(c)
			sailed, fixes := roomyTrack(track)
			tracks := slices.Repeat([]impl.Track{sailed}, 5)
			kept, keptMarks, keptFixes := slices.Clone(tracks), slices.Clone(marks), slices.Clone(fixes)
			for k := int64(-1); k <= int64(len(c.Marks)); k++ {
				for _, time := range []int64{-1, 0, 12, 15, 1000} {
					impl.InZoneAt(roomy, k, sailed, time)
					impl.DistanceToMark(roomy, k, sailed, time)
					impl.LengthsToMark(roomy, k, sailed, time, 10)
				}
				impl.LegsInZone(roomy, k, sailed)
				impl.VisitsOf(roomy, k, sailed)
				impl.NearestOnTrack(roomy, k, sailed)
				impl.FirstToZone(roomy, k, tracks[:3])
			}
			if !slices.Equal(marks, keptMarks) || !slices.Equal(fixes, keptFixes) {
				t.Fatalf("the course %v or the track %v is modified", c, track)
			}
			if !slices.EqualFunc(tracks, kept, func(a, b impl.Track) bool { return sameTrack(a, b) && &a.Fixes[0] == &b.Fixes[0] }) {
				t.Fatalf("the tracks %v are modified", kept)
			}
		}
	}
}

// overwriteNumbers changes all the memory of a list, its spare capacity included.
func overwriteNumbers(list []int64) {
	list = list[:cap(list)]
	for k := range list {
		list[k] = -9
	}
}

// Results that share memory with one another, or whose parts do, would change here.
func TestZoneResultsAreNew(t *testing.T) {
	c, track := zoneCourse(0, 1, 7), patternTrack([]bool{true, false, true, true, false, false, true, true, true, false, true})
	wantLegs, wantVisits := []int64{0, 2, 3, 6, 7, 8, 10}, [][]int64{{0, 0}, {2, 3}, {6, 8}, {10, 10}}
	for range 3 {
		legs, _ := impl.LegsInZone(c, 0, track)
		again, _ := impl.LegsInZone(c, 0, track)
		overwriteNumbers(legs)
		if !slices.Equal(again, wantLegs) {
			t.Fatalf("the legs have changed to %v", again)
		}
		for n := range wantVisits {
			visits, _ := impl.VisitsOf(c, 0, track)
			other, _ := impl.VisitsOf(c, 0, track)
			if !sameVisits(visits, wantVisits) {
				t.Fatalf("VisitsOf(%v, 0, %v) = %v, want %v", c, track, visits, wantVisits)
			}
			overwriteNumbers(visits[n])
			visits[n] = wantVisits[n]
			if !sameVisits(visits, wantVisits) {
				t.Fatalf("the visits have changed to %v with the visit %d", visits, n)
			}
			clear(visits[:cap(visits)])
			if !sameVisits(other, wantVisits) {
				t.Fatalf("the visits have changed to %v", other)
			}
		}
	}
}
