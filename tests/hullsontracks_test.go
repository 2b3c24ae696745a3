package tests

import (
	"math/rand"
	"slices"
	"testing"

	"loop.example/g00887/impl"
)

// expectedHullAt returns the hull at a time at which the track lasts, and the code.
func expectedHullAt(track impl.Track, time, length int64) (impl.Hull, int64) {
	heading := vector(track, expectedLeg(track, time))
	if heading == (impl.Point{}) {
		return impl.Hull{}, impl.ErrState
	}
	return impl.Hull{Bow: expectedPosition(track, time), Heading: heading, Length: length}, impl.ErrNone
}

func refuseHullAt(t *testing.T, track impl.Track, time, length, want int64) {
	t.Helper()
	if h, code := impl.HullAt(track, time, length); h != (impl.Hull{}) || code != want {
		t.Fatalf("HullAt(%v, %d, %d) = %v, %d, want the code %d", track, time, length, h, code, want)
	}
}

// checkHullsAt checks the hulls at all times of a track, and beside it.
func checkHullsAt(t *testing.T, track impl.Track) {
	t.Helper()
	for k, time := range timesWithin(track) {
		length := someHulls[k%len(someHulls)]
		want, wantCode := expectedHullAt(track, time, length)
		h, code := impl.HullAt(track, time, length)
		if h != want || code != wantCode {
			t.Fatalf("HullAt(%v, %d, %d) = %v, %d, want %v, %d", track, time, length, h, code, want, wantCode)
		}
		if impl.IsHull(h) != (code == impl.ErrNone) {
			t.Fatalf("HullAt(%v, %d, %d) = %v, %d is not a hull and ErrNone", track, time, length, h, code)
		}
		for _, bad := range badHulls {
			refuseHullAt(t, track, time, bad, impl.ErrRange)
		}
	}
	for k, time := range timesOutside(track) {
		refuseHullAt(t, track, time, someHulls[k%len(someHulls)], impl.ErrRange)
		refuseHullAt(t, track, time, badHulls[k%len(badHulls)], impl.ErrRange)
	}
}

func TestHullAt(t *testing.T) {
	const m, end = impl.MaxCoord, impl.MaxTime
	// To the north-east from 5 to 15, without length to 25, to the south to 35.
	track := trackOf(5, 0, 0, 15, 3, 4, 25, 3, 4, 35, 3, -1)
	far := trackOf(0, -m, m, end, m, -m)
	for _, row := range []struct {
		name         string
		track        impl.Track
		time, length int64
		want         impl.Hull
		code         int64
	}{
		{"one before the first fix", track, 4, 30, impl.Hull{}, impl.ErrRange},
		{"at the first fix", track, 5, 30, hullOf(0, 0, 3, 4, 30), impl.ErrNone},
		{"between two fixes", track, 10, 30, hullOf(1, 2, 3, 4, 30), impl.ErrNone},
		{"between two fixes, rounded down", track, 14, 30, hullOf(2, 3, 3, 4, 30), impl.ErrNone},
		{"at a fix before a leg without length", track, 15, 30, impl.Hull{}, impl.ErrState},
		{"on a leg without length", track, 20, 30, impl.Hull{}, impl.ErrState},
		{"at the end of a leg without length", track, 24, 30, impl.Hull{}, impl.ErrState},
		{"at a fix behind a leg without length", track, 25, 30, hullOf(3, 4, 0, -5, 30), impl.ErrNone},
		{"rounded down to the south", track, 27, 30, hullOf(3, 3, 0, -5, 30), impl.ErrNone},
		{"rounded down to the south by less than 1", track, 26, 30, hullOf(3, 3, 0, -5, 30), impl.ErrNone},
		{"at the last fix", track, 35, 30, hullOf(3, -1, 0, -5, 30), impl.ErrNone},
		{"one after the last fix", track, 36, 30, impl.Hull{}, impl.ErrRange},
		{"no length", track, 10, 0, impl.Hull{}, impl.ErrRange},
		{"least length", track, 10, 1, hullOf(1, 2, 3, 4, 1), impl.ErrNone},
		{"greatest length", track, 10, 1000, hullOf(1, 2, 3, 4, 1000), impl.ErrNone},
		{"too long", track, 10, 1001, impl.Hull{}, impl.ErrRange},
		{"no length, on a leg without length", track, 20, 0, impl.Hull{}, impl.ErrRange},
		{"too long, on a leg without length", track, 20, 1001, impl.Hull{}, impl.ErrRange},
		{"no length, one after the last fix", track, 36, 0, impl.Hull{}, impl.ErrRange},
		{"no length, on a track that is not valid", impl.Track{}, 0, 0, impl.Hull{}, impl.ErrInvalid},
		{"at the end of a track without length", stay(impl.Point{X: 7}), 20, 5, impl.Hull{}, impl.ErrState},
		{"farthest, at its beginning", far, 0, 1000, hullOf(-m, m, 2*m, -2*m, 1000), impl.ErrNone},
		{"farthest, in its middle", far, end / 2, 1000, hullOf(0, 0, 2*m, -2*m, 1000), impl.ErrNone},
		{"farthest, after its middle", far, end/2 + 1, 1000, hullOf(0, -1, 2*m, -2*m, 1000), impl.ErrNone},
		{"farthest, at its end", far, end, 1, hullOf(m, -m, 2*m, -2*m, 1), impl.ErrNone},
	} {
		if h, code := impl.HullAt(row.track, row.time, row.length); h != row.want || code != row.code {
			t.Errorf("%s: HullAt(%v, %d, %d) = %v, %d, want %v, %d", row.name, row.track, row.time, row.length, h, code, row.want, row.code)
		}
	}
	checkHullsAt(t, track)
}

func TestHullsOfAllTracks(t *testing.T) {
	for _, track := range sailedTracks() {
		checkHullsAt(t, track)
	}
	random := rand.New(rand.NewSource(38))
	for range 200 {
		checkHullsAt(t, randomTrack(random))
	}
}

// The parts of a hull are what chapter 3 says, with its codes.
func TestHullAtIsThePositionAndTheHeading(t *testing.T) {
	for _, track := range sailedTracks() {
		for _, time := range append(timesWithin(track), timesOutside(track)...) {
			p, _ := impl.PositionAt(track, time)
			heading, wantCode := impl.HeadingAt(track, time)
			want := impl.Hull{}
			if wantCode == impl.ErrNone {
				want = impl.Hull{Bow: p, Heading: heading, Length: 44}
			}
			if h, code := impl.HullAt(track, time, 44); h != want || code != wantCode {
				t.Fatalf("HullAt(%v, %d, 44) = %v, %d, want %v, %d", track, time, h, code, want, wantCode)
			}
		}
	}
}

// ErrInvalid comes ahead of the codes for the length and the time.
func TestHullsOfInvalidTracks(t *testing.T) {
	for _, bad := range invalidTracks() {
		for _, time := range append([]int64{-1, 0, 10, 12, 20, 21, impl.MaxTime, impl.MaxTime + 1}, extremes...) {
			for _, length := range append([]int64{1, 35, impl.MaxHullLength}, badHulls...) {
				refuseHullAt(t, bad, time, length, impl.ErrInvalid)
			}
		}
	}
}

func TestHullAtKeepsItsTrack(t *testing.T) {
	for _, track := range append(sailedTracks(), trackOf(5, 0, 0, 5, 1, 1)) {
		roomy, memory := roomyTrack(track)
		before := slices.Clone(memory)
		for _, time := range []int64{-1, firstTime(track), lastTime(track), 12} {
			for _, length := range []int64{0, 9, impl.MaxHullLength} {
				impl.HullAt(roomy, time, length)
			}
		}
		if !slices.Equal(memory, before) {
			t.Fatalf("the track %v is modified", track)
		}
	}
}
