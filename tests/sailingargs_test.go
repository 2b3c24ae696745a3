package tests

import (
	"slices"
	"testing"

	"loop.example/g00887/impl"
)

// refuseSailing checks that all functions that follow a track return a code, ahead of those for
// the time and for what the track does, and nothing beside it.
func refuseSailing(t *testing.T, c impl.Course, track impl.Track, want int64) {
	t.Helper()
	if times, code := impl.TimesSailed(c, track); len(times) != 0 || code != want {
		t.Fatalf("TimesSailed(%v, %v) = %v, %d, want the code %d", c, track, times, code, want)
	}
	if n, code := impl.FinishTime(c, track); n != 0 || code != want {
		t.Fatalf("FinishTime(%v, %v) = %d, %d, want the code %d", c, track, n, code, want)
	}
	if times, code := impl.LegTimes(c, track); len(times) != 0 || code != want {
		t.Fatalf("LegTimes(%v, %v) = %v, %d, want the code %d", c, track, times, code, want)
	}
	good := joined(startPart, roundPart, finishPart)
	full := slices.Repeat([]impl.Track{good}, impl.MaxBoats)
	full[impl.MaxBoats-1] = track
	for _, time := range append([]int64{-1, 0, 10, 350, impl.MaxTime + 1}, extremes...) {
		if n, code := impl.ReachedAt(c, track, time); n != 0 || code != want {
			t.Fatalf("ReachedAt(%v, %v, %d) = %d, %d, want the code %d", c, track, time, n, code, want)
		}
		if n, code := impl.DistanceToNext(c, track, time); n != 0 || code != want {
			t.Fatalf("DistanceToNext(%v, %v, %d) = %d, %d, want the code %d", c, track, time, n, code, want)
		}
		for _, tracks := range [][]impl.Track{{track}, {track, good}, {good, track}, {track, {}}, full} {
			code := want
			if !impl.IsTrack(tracks[len(tracks)-1]) {
				code = impl.ErrInvalid
			}
			refuseOrder(t, c, tracks, time, code)
		}
	}
}

func refuseOrder(t *testing.T, c impl.Course, tracks []impl.Track, time, want int64) {
	t.Helper()
	if order, code := impl.OrderAt(c, tracks, time); len(order) != 0 || code != want {
		t.Fatalf("OrderAt(%v, %v, %d) = %v, %d, want the code %d", c, tracks, time, order, code, want)
	}
}

func TestSailingFunctionsRefuseInvalidArguments(t *testing.T) {
	good := joined(startPart, roundPart, finishPart)
	for _, c := range invalidCourses() {
		refuseSailing(t, c, good, impl.ErrInvalid)
		refuseSailing(t, c, impl.Track{}, impl.ErrInvalid)
		refuseOrder(t, c, nil, 100, impl.ErrInvalid)
	}
	for _, track := range invalidTracks() {
		refuseSailing(t, shortCourse(), track, impl.ErrInvalid)
	}
}

// The rounding line of any mark makes the functions fail, of one that no track comes to as well.
func TestSailingFunctionsNeedAllRoundingLines(t *testing.T) {
	for _, c := range edgeCourses() {
		for _, track := range []impl.Track{joined(startPart, roundPart, finishPart), trackOf(0, 0, -10, 100, 5, -1), windingTrack(impl.MaxFixes, 0)} {
			refuseSailing(t, c, track, impl.ErrRange)
		}
		for _, track := range []impl.Track{{}, trackOf(0, 0, 0), trackOf(5, 0, 0, 5, 1, 1), windingTrack(impl.MaxFixes+1, 0)} {
			refuseSailing(t, c, track, impl.ErrInvalid)
		}
		refuseOrder(t, c, nil, 100, impl.ErrRange)
	}
	for k := range impl.MaxMarks {
		c := windingCourse(impl.MaxMarks)
		c.Marks[k] = mark("edge", impl.MaxCoord, -1000, impl.MarkStarboard, impl.MaxZone)
		refuseSailing(t, c, joined(startPart), impl.ErrRange)
	}
}

func TestTooManyBoats(t *testing.T) {
	good := joined(startPart, roundPart, finishPart)
	for _, track := range []impl.Track{good, {}, trackOf(5, 0, 0, 5, 1, 1)} {
		for _, n := range []int{impl.MaxBoats + 1, impl.MaxBoats + 2, 2 * impl.MaxBoats, 500} {
			tracks := slices.Repeat([]impl.Track{track}, n)
			for _, c := range slices.Concat([]impl.Course{shortCourse(), {}}, edgeCourses(), invalidCourses()[:9]) {
				for _, time := range append([]int64{-1, 0, 350}, extremes...) {
					refuseOrder(t, c, tracks, time, impl.ErrLimit)
				}
			}
		}
	}
}

func TestSailingFunctionsKeepTheirArguments(t *testing.T) {
	courses := append(sailableCourses()[:6], shortCourse(), squareCourse(), edgeCourses()[1], windingCourse(impl.MaxMarks+1))
	for _, c := range courses {
		for _, track := range []impl.Track{joined(startPart, roundPart, finishPart), windingTrack(impl.MaxFixes, 0), trackOf(5, 0, 0, 5, 1, 1)} {
			roomy, marks := roomyCourse(c)
			sailed, fixes := roomyTrack(track)
			tracks := slices.Repeat([]impl.Track{sailed}, 5)
			kept, keptMarks, keptFixes := slices.Clone(tracks), slices.Clone(marks), slices.Clone(fixes)
			impl.RoundingLine(roomy, 0)
			impl.TimesSailed(roomy, sailed)
			impl.FinishTime(roomy, sailed)
			impl.LegTimes(roomy, sailed)
			for _, time := range []int64{-1, 9, 10, 150, 350, 1000} {
				impl.ReachedAt(roomy, sailed, time)
				impl.DistanceToNext(roomy, sailed, time)
				impl.OrderAt(roomy, tracks[:3], time)
			}
			if !slices.Equal(marks, keptMarks) || !slices.Equal(fixes, keptFixes) {
				t.Fatalf("the course %v or the track %v is modified", c, track)
			}
			if !slices.EqualFunc(tracks, kept, func(a, b impl.Track) bool { return sameTrack(a, b) && &a.Fixes[0] == &b.Fixes[0] }) {
				t.Fatalf("the tracks %v are modified", kept)
			}
		}
	}
}

// Results that share memory with one another, or that are kept, would change here.
func TestSailingResultsAreNew(t *testing.T) {
	tracks := []impl.Track{trackOf(0, 0, -10, 100, 5, -1), joined(startPart, roundPart, finishPart)}
	for range 3 {
		times, _ := impl.TimesSailed(shortCourse(), tracks[1])
		legs, _ := impl.LegTimes(shortCourse(), tracks[1])
		order, _ := impl.OrderAt(shortCourse(), tracks, 100)
		again, _ := impl.OrderAt(shortCourse(), tracks, 100)
		if !slices.Equal(times, []int64{10, 150, 350}) || !slices.Equal(legs, []int64{140, 200}) || !slices.Equal(order, []int64{1, 0}) {
			t.Fatalf("the times are %v, the differences %v, the order is %v", times, legs, order)
		}
		for _, list := range [][]int64{times, legs, order} {
			memory := list[:cap(list)]
			for k := range memory {
				memory[k] = -9
			}
		}
		if !slices.Equal(again, []int64{1, 0}) {
			t.Fatalf("an order has changed to %v", again)
		}
	}
}
