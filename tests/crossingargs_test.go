package tests

import (
	"slices"
	"testing"

	"loop.example/g00887/impl"
)

// refuseCrossings checks that all functions with a track and a line return ErrInvalid, ahead of
// ErrRange and ErrNotFound, and nothing beside it.
func refuseCrossings(t *testing.T, track impl.Track, l impl.Line) {
	t.Helper()
	if list, code := impl.CrossingsOf(track, l); len(list) != 0 || code != impl.ErrInvalid {
		t.Fatalf("CrossingsOf(%v, %v) = %v, %d, want ErrInvalid", track, l, list, code)
	}
	if forward, backward, code := impl.CountCrossings(track, l); forward != 0 || backward != 0 || code != impl.ErrInvalid {
		t.Fatalf("CountCrossings(%v, %v) = %d, %d, %d, want ErrInvalid", track, l, forward, backward, code)
	}
	for _, n := range append([]int64{-1, 0, 1, 5, impl.MaxTime + 1}, extremes...) {
		for _, way := range []int64{1, -1, 0, n} {
			if c, code := impl.FirstCrossing(track, l, way, n); c != (impl.Crossing{}) || code != impl.ErrInvalid {
				t.Fatalf("FirstCrossing(%v, %v, %d, %d) = %v, %d, want ErrInvalid", track, l, way, n, c, code)
			}
		}
		if p, code := impl.CrossingPoint(track, l, n); p != (impl.Point{}) || code != impl.ErrInvalid {
			t.Fatalf("CrossingPoint(%v, %v, %d) = %v, %d, want ErrInvalid", track, l, n, p, code)
		}
		if side, code := impl.SideAt(track, l, n); side != 0 || code != impl.ErrInvalid {
			t.Fatalf("SideAt(%v, %v, %d) = %d, %d, want ErrInvalid", track, l, n, side, code)
		}
	}
}

func TestFunctionsRefuseInvalidTracksAndLines(t *testing.T) {
	good, axis := trackOf(0, 0, -1, 10, 0, 2, 20, 0, -2), line(-5, 0, 5, 0)
	for _, bad := range invalidTracks() {
		refuseCrossings(t, bad, axis)
	}
	for _, bad := range invalidLines() {
		refuseCrossings(t, good, bad)
		refuseCrossings(t, windingTrack(impl.MaxFixes, 0), bad)
		refuseCrossings(t, impl.Track{}, bad)
	}
}

func TestWayAcrossErrors(t *testing.T) {
	refuse := func(l impl.Line, p, q impl.Point) {
		t.Helper()
		if way, code := impl.WayAcross(l, p, q); way != 0 || code != impl.ErrInvalid {
			t.Fatalf("WayAcross(%v, %v, %v) = %d, %d, want ErrInvalid", l, p, q, way, code)
		}
	}
	axis, p, q := line(-5, 0, 5, 0), impl.Point{Y: -1}, impl.Point{Y: 1}
	for _, bad := range invalidLines() {
		refuse(bad, p, q)
		refuse(bad, q, p)
		refuse(bad, p, p)
	}
	for _, bad := range invalidPoints() {
		refuse(axis, bad, q)
		refuse(axis, p, bad)
		refuse(axis, bad, bad)
		refuse(impl.Line{}, bad, q)
	}
}

func TestCrossingFunctionsKeepTheTrack(t *testing.T) {
	for _, track := range append(validTracks(), zigzag(impl.MaxFixes), trackOf(5, 0, 0, 4, 1, 1)) {
		roomy, memory := roomyTrack(track)
		before := slices.Clone(memory)
		for _, l := range []impl.Line{line(-60, 0, 60, 0), line(0, 60, 0, -60), {}} {
			impl.CrossingsOf(roomy, l)
			impl.CountCrossings(roomy, l)
			for _, n := range []int64{-1, 0, 1, firstTime(track), lastTime(track)} {
				impl.FirstCrossing(roomy, l, 1, n)
				impl.FirstCrossing(roomy, l, -1, n)
				impl.CrossingPoint(roomy, l, n)
				impl.SideAt(roomy, l, n)
			}
			impl.CompareCrossings(roomy, impl.Crossing{Place: impl.Ratio{Num: 1, Den: 2}}, roomy, impl.Crossing{Place: impl.Ratio{Num: 1, Den: 3}})
		}
		if !slices.Equal(memory, before) {
			t.Fatalf("the track %v is modified", track)
		}
	}
}

// overwriteCrossings changes all the memory of a list, its spare capacity included.
func overwriteCrossings(list []impl.Crossing) {
	list = list[:cap(list)]
	for k := range list {
		list[k] = impl.Crossing{Time: -9, Leg: -9, Way: -9, Place: impl.Ratio{Num: -9, Den: -9}}
	}
}

func TestListsOfCrossingsAreNew(t *testing.T) {
	for _, track := range append(validTracks(), zigzag(impl.MaxFixes)) {
		for _, l := range linesAbout(track)[:8] {
			roomy, memory := roomyTrack(track)
			before := slices.Clone(memory)
			want := expectedCrossings(track, l)
			list, other := crossingsOf(t, roomy, l), crossingsOf(t, roomy, l)
			overwriteCrossings(other)
			if !slices.Equal(memory, before) {
				t.Fatalf("CrossingsOf(%v, %v) returns memory of its argument", track, l)
			}
			overwrite(impl.Track{Fixes: memory})
			if !slices.Equal(list, want) {
				t.Fatalf("CrossingsOf(%v, %v) = %v, which changes with its argument or with another result; want %v", track, l, list, want)
			}
			if again := crossingsOf(t, track, l); !slices.Equal(again, want) {
				t.Fatalf("CrossingsOf(%v, %v) = %v after a result was changed, want %v", track, l, again, want)
			}
		}
	}
}
