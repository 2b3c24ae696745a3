package tests

import (
	"slices"
	"testing"

	"loop.example/g00887/impl"
)

func sameTrack(a, b impl.Track) bool { return slices.Equal(a.Fixes, b.Fixes) }

// cut returns a part that has to exist.
func cut(t *testing.T, track impl.Track, from, to int64) impl.Track {
	t.Helper()
	part, code := impl.CutTrack(track, from, to)
	if code != impl.ErrNone {
		t.Fatalf("CutTrack(%v, %d, %d): code %d", track, from, to, code)
	}
	return part
}

// join returns a track that has to exist.
func join(t *testing.T, a, b impl.Track) impl.Track {
	t.Helper()
	joined, code := impl.JoinTracks(a, b)
	if code != impl.ErrNone {
		t.Fatalf("JoinTracks(%v, %v): code %d", a, b, code)
	}
	return joined
}

func expectedFix(track impl.Track, time int64) impl.Fix {
	p := expectedPosition(track, time)
	return impl.Fix{Time: time, X: p.X, Y: p.Y}
}

func expectedPart(track impl.Track, from, to int64) impl.Track {
	part := impl.Track{Fixes: []impl.Fix{expectedFix(track, from)}}
	for _, fix := range track.Fixes {
		if from < fix.Time && fix.Time < to {
			part.Fixes = append(part.Fixes, fix)
		}
	}
	part.Fixes = append(part.Fixes, expectedFix(track, to))
	return part
}

// someTimes are few enough of timesWithin for all of their pairs to be tried.
func someTimes(track impl.Track) []int64 {
	times := timesWithin(track)
	step := 1 + len(times)/40
	some := []int64{}
	for k := 0; k < len(times); k += step {
		some = append(some, times[k])
	}
	return append(some, lastTime(track))
}

func TestCutTrack(t *testing.T) {
	const m, end = impl.MaxCoord, impl.MaxTime
	bent := trackOf(0, 0, 0, 10, 3, 0, 20, 3, -5)
	far := trackOf(0, -m, m, end, m, -m)
	for _, c := range []struct {
		track    impl.Track
		from, to int64
		want     impl.Track
	}{
		{bent, 0, 20, bent},
		{bent, 0, 5, trackOf(0, 0, 0, 5, 1, 0)},
		{bent, 5, 20, trackOf(5, 1, 0, 10, 3, 0, 20, 3, -5)},
		{bent, 0, 10, trackOf(0, 0, 0, 10, 3, 0)},
		{bent, 10, 20, trackOf(10, 3, 0, 20, 3, -5)},
		{bent, 9, 11, trackOf(9, 2, 0, 10, 3, 0, 11, 3, -1)},
		{bent, 3, 4, trackOf(3, 0, 0, 4, 1, 0)},
		{bent, 19, 20, trackOf(19, 3, -5, 20, 3, -5)},
		{far, 0, end, far},
		{far, 1, end - 1, trackOf(1, -m, m-1, end-1, m-1, -m)},
		{far, end / 2, end/2 + 1, trackOf(end/2, 0, 0, end/2+1, 0, -1)},
		{trackOf(4, 1, 1, 9, 1, 1), 5, 8, trackOf(5, 1, 1, 8, 1, 1)},
	} {
		if part, code := impl.CutTrack(c.track, c.from, c.to); code != impl.ErrNone || !sameTrack(part, c.want) {
			t.Errorf("CutTrack(%v, %d, %d) = %v, %d, want %v", c.track, c.from, c.to, part, code, c.want)
		}
	}
}

func TestAllPartsOfTracks(t *testing.T) {
	for _, track := range validTracks() {
		times := someTimes(track)
		for _, from := range times {
			for _, to := range times {
				if from >= to {
					continue
				}
				part, want := cut(t, track, from, to), expectedPart(track, from, to)
				if !sameTrack(part, want) {
					t.Fatalf("CutTrack(%v, %d, %d) = %v, want %v", track, from, to, part, want)
				}
				if !impl.IsTrack(part) {
					t.Fatalf("CutTrack(%v, %d, %d) = %v, which is not valid", track, from, to, part)
				}
			}
		}
	}
}

func TestCuttingAtTheEndsReturnsTheTrack(t *testing.T) {
	for _, track := range validTracks() {
		if part := cut(t, track, firstTime(track), lastTime(track)); !sameTrack(part, track) {
			t.Errorf("%v, cut at its ends, is %v", track, part)
		}
	}
}

func TestCutTrackErrors(t *testing.T) {
	refuse := func(track impl.Track, from, to int64, want int64) {
		t.Helper()
		if part, code := impl.CutTrack(track, from, to); len(part.Fixes) != 0 || code != want {
			t.Fatalf("CutTrack(%v, %d, %d) = %v, %d, want the code %d", track, from, to, part, code, want)
		}
	}
	for _, track := range validTracks() {
		first, last := firstTime(track), lastTime(track)
		for _, time := range someTimes(track) {
			refuse(track, time, time, impl.ErrRange)
		}
		refuse(track, last, first, impl.ErrRange)
		refuse(track, first+1, first, impl.ErrRange)
		refuse(track, first-1, last, impl.ErrRange)
		refuse(track, first, last+1, impl.ErrRange)
		refuse(track, first-1, last+1, impl.ErrRange)
		refuse(track, last, last+1, impl.ErrRange)
		refuse(track, first-1, first, impl.ErrRange)
		for _, outside := range timesOutside(track) {
			refuse(track, outside, last, impl.ErrRange)
			refuse(track, first, outside, impl.ErrRange)
			refuse(track, outside, outside, impl.ErrRange)
			for _, other := range timesOutside(track) {
				refuse(track, outside, other, impl.ErrRange)
			}
		}
	}
	for _, bad := range invalidTracks() {
		for _, pair := range [][2]int64{{0, 1}, {5, 6}, {4, 20}, {0, 0}, {6, 5}, {-1, impl.MaxTime + 1}, {extremes[0], extremes[3]}} {
			refuse(bad, pair[0], pair[1], impl.ErrInvalid)
		}
	}
}

func TestJoinTracks(t *testing.T) {
	const m, end = impl.MaxCoord, impl.MaxTime
	for _, c := range []struct {
		name       string
		a, b, want impl.Track
	}{
		{"common fix", trackOf(0, 0, 0, 5, 1, 0), trackOf(5, 1, 0, 10, 3, 0), trackOf(0, 0, 0, 5, 1, 0, 10, 3, 0)},
		{"gap", trackOf(0, 0, 0, 5, 1, 0), trackOf(9, 4, 4, 10, 3, 0), trackOf(0, 0, 0, 5, 1, 0, 9, 4, 4, 10, 3, 0)},
		{"least gap", trackOf(0, 0, 0, 5, 1, 0), trackOf(6, 4, 4, 10, 3, 0), trackOf(0, 0, 0, 5, 1, 0, 6, 4, 4, 10, 3, 0)},
		{"gap at one point", trackOf(0, 0, 0, 5, 1, 0), trackOf(6, 1, 0, 10, 3, 0), trackOf(0, 0, 0, 5, 1, 0, 6, 1, 0, 10, 3, 0)},
		{"greatest gap", trackOf(0, -m, -m, 1, m, m), trackOf(end-1, -m, -m, end, m, m), trackOf(0, -m, -m, 1, m, m, end-1, -m, -m, end, m, m)},
		{"common fix at a stop", trackOf(0, 2, 2, 5, 2, 2), trackOf(5, 2, 2, 9, 2, 2), trackOf(0, 2, 2, 5, 2, 2, 9, 2, 2)},
	} {
		t.Run(c.name, func(t *testing.T) {
			joined := join(t, c.a, c.b)
			if !sameTrack(joined, c.want) {
				t.Errorf("JoinTracks(%v, %v) = %v, want %v", c.a, c.b, joined, c.want)
			}
		})
	}
}

func refuseJoin(t *testing.T, a, b impl.Track, want int64) {
	t.Helper()
	if joined, code := impl.JoinTracks(a, b); len(joined.Fixes) != 0 || code != want {
		t.Fatalf("JoinTracks(%v, %v) = %v, %d, want the code %d", a, b, joined, code, want)
	}
}

func TestJoiningTracksThatOverlap(t *testing.T) {
	a := trackOf(10, 0, 0, 15, 2, 2, 20, 4, 3)
	for _, b := range []impl.Track{
		trackOf(19, 4, 3, 30, 0, 0), trackOf(15, 2, 2, 20, 4, 3), trackOf(10, 0, 0, 15, 2, 2, 20, 4, 3), trackOf(16, 0, 0, 17, 0, 0),
		trackOf(20, 4, 2, 30, 0, 0), trackOf(20, 5, 3, 30, 0, 0), trackOf(20, 3, 4, 30, 0, 0), trackOf(20, 0, 0, 30, 4, 3),
		trackOf(0, 0, 0, 30, 1, 1), trackOf(0, 4, 3, 5, 0, 0), trackOf(0, 7, 7, 10, 0, 0), trackOf(0, 0, 0, impl.MaxTime, 4, 3),
	} {
		refuseJoin(t, a, b, impl.ErrState)
	}
	for _, track := range validTracks() {
		refuseJoin(t, track, track, impl.ErrState)
	}
}

// follower has n fixes and begins a millisecond after the track ends, or with its last fix.
func follower(track impl.Track, n int, withItsLastFix bool) impl.Track {
	if !withItsLastFix {
		return windingTrack(n, lastTime(track)+1)
	}
	return changed(windingTrack(n, lastTime(track)), 0, track.Fixes[len(track.Fixes)-1])
}

func TestJoinedNumbersOfFixes(t *testing.T) {
	for n := 2; n <= impl.MaxFixes; n++ {
		a := windingTrack(n, 3)
		for m := 2; m <= impl.MaxFixes; m++ {
			for _, common := range []bool{false, true} {
				b := follower(a, m, common)
				want := impl.Track{Fixes: slices.Concat(a.Fixes, b.Fixes)}
				if common {
					want.Fixes = slices.Delete(want.Fixes, n, n+1)
				}
				if len(want.Fixes) > impl.MaxFixes {
					refuseJoin(t, a, b, impl.ErrLimit)
					continue
				}
				joined := join(t, a, b)
				if !sameTrack(joined, want) || !impl.IsTrack(joined) {
					t.Fatalf("JoinTracks(%v, %v) = %v, want %v", a, b, joined, want)
				}
			}
		}
	}
}

func TestJoinTracksCodesInOrder(t *testing.T) {
	full := windingTrack(impl.MaxFixes, 0)
	// Both the times and the number of fixes are wrong.
	refuseJoin(t, full, full, impl.ErrState)
	refuseJoin(t, full, windingTrack(impl.MaxFixes, lastTime(full)-1), impl.ErrState)
	refuseJoin(t, full, follower(full, 2, false), impl.ErrLimit)
	good := []impl.Track{trackOf(1, 0, 0, 2, 5, 5), trackOf(impl.MaxTime-1, 0, 0, impl.MaxTime, 5, 5), full}
	for _, bad := range invalidTracks() {
		for _, other := range append(good, bad, impl.Track{}) {
			refuseJoin(t, bad, other, impl.ErrInvalid)
			refuseJoin(t, other, bad, impl.ErrInvalid)
		}
	}
}

// checkPositions checks that a track has the positions of the whole one at the times of the fixes of
// both, as far as it lasts.
func checkPositions(t *testing.T, whole, track impl.Track) {
	t.Helper()
	for _, fix := range slices.Concat(whole.Fixes, track.Fixes) {
		if fix.Time < firstTime(track) || fix.Time > lastTime(track) {
			continue
		}
		if p, want := positionAt(t, track, fix.Time), positionAt(t, whole, fix.Time); p != want {
			t.Fatalf("at %d, %v has the position %v, but %v has %v", fix.Time, track, p, whole, want)
		}
	}
}

func hasFixAt(track impl.Track, time int64) bool {
	return slices.ContainsFunc(track.Fixes, func(fix impl.Fix) bool { return fix.Time == time })
}

func TestCuttingAndJoiningKeepsPositions(t *testing.T) {
	for _, track := range validTracks() {
		first, last := firstTime(track), lastTime(track)
		for _, time := range timesWithin(track) {
			if time == first || time == last {
				continue
			}
			a, b := cut(t, track, first, time), cut(t, track, time, last)
			checkPositions(t, track, a)
			checkPositions(t, track, b)
			atAFix := hasFixAt(track, time)
			if len(track.Fixes) == impl.MaxFixes && !atAFix {
				refuseJoin(t, a, b, impl.ErrLimit)
				continue
			}
			joined := join(t, a, b)
			checkPositions(t, track, joined)
			if atAFix != sameTrack(joined, track) || !hasFixAt(joined, time) {
				t.Fatalf("%v, cut at %d and joined, is %v", track, time, joined)
			}
		}
	}
}

func TestPartsKeepPositions(t *testing.T) {
	for _, track := range validTracks() {
		times := someTimes(track)
		for _, from := range times {
			for _, to := range times {
				if from < to {
					checkPositions(t, track, cut(t, track, from, to))
				}
			}
		}
	}
}

func TestJoinedTracksKeepBothPositions(t *testing.T) {
	for _, n := range []int{2, 3, 7, 20} {
		a := windingTrack(n, 11)
		for _, common := range []bool{false, true} {
			b := follower(a, n, common)
			joined := join(t, a, b)
			for _, part := range []impl.Track{a, b} {
				for _, fix := range part.Fixes {
					if p := positionAt(t, joined, fix.Time); p != (impl.Point{X: fix.X, Y: fix.Y}) {
						t.Fatalf("%v has the position %v at the fix %v", joined, p, fix)
					}
				}
				if again := cut(t, joined, firstTime(part), lastTime(part)); !sameTrack(again, part) {
					t.Fatalf("the part of %v is %v, want %v", joined, again, part)
				}
			}
		}
	}
}

// roomyTrack has the fixes of a track in front of spare memory, which it returns whole too.
func roomyTrack(track impl.Track) (impl.Track, []impl.Fix) {
	memory := slices.Clone(track.Fixes)
	for k := range int64(2 * impl.MaxFixes) {
		memory = append(memory, impl.Fix{Time: -k, X: 77, Y: k})
	}
	return impl.Track{Fixes: memory[:len(track.Fixes)]}, memory
}

// overwrite changes all the memory that a result has, its spare capacity included.
func overwrite(track impl.Track) {
	memory := track.Fixes[:cap(track.Fixes)]
	for k := range memory {
		memory[k] = impl.Fix{Time: -9, X: -9, Y: -9}
	}
}

func TestCutTrackSharesNoMemory(t *testing.T) {
	for _, track := range validTracks() {
		times := someTimes(track)
		pairs := [][2]int64{{times[0], lastTime(track)}, {times[0], times[1]}, {times[len(times)/2], lastTime(track)}, {5, 5}, {lastTime(track), lastTime(track) + 1}}
		for _, pair := range pairs {
			roomy, memory := roomyTrack(track)
			before := slices.Clone(memory)
			part, _ := impl.CutTrack(roomy, pair[0], pair[1])
			kept := slices.Clone(part.Fixes)
			if !slices.Equal(memory, before) {
				t.Fatalf("CutTrack(%v, %d, %d) modifies its argument", track, pair[0], pair[1])
			}
			overwrite(impl.Track{Fixes: memory})
			if !slices.Equal(part.Fixes, kept) {
				t.Fatalf("CutTrack(%v, %d, %d) returns memory of its argument", track, pair[0], pair[1])
			}
			copy(memory, before)
			overwrite(part)
			if !slices.Equal(memory, before) {
				t.Fatalf("CutTrack(%v, %d, %d) returns memory of its argument", track, pair[0], pair[1])
			}
		}
	}
}

func TestJoinTracksSharesNoMemory(t *testing.T) {
	a := windingTrack(7, 3)
	full := windingTrack(impl.MaxFixes, lastTime(a)+1)
	for _, b := range []impl.Track{follower(a, 2, false), follower(a, 2, true), follower(a, 30, true), full, a} {
		roomyA, memoryA := roomyTrack(a)
		roomyB, memoryB := roomyTrack(b)
		beforeA, beforeB := slices.Clone(memoryA), slices.Clone(memoryB)
		joined, _ := impl.JoinTracks(roomyA, roomyB)
		kept := slices.Clone(joined.Fixes)
		if !slices.Equal(memoryA, beforeA) || !slices.Equal(memoryB, beforeB) {
			t.Fatalf("JoinTracks(%v, %v) modifies an argument", a, b)
		}
		overwrite(impl.Track{Fixes: memoryA})
		overwrite(impl.Track{Fixes: memoryB})
		if !slices.Equal(joined.Fixes, kept) {
			t.Fatalf("JoinTracks(%v, %v) returns memory of an argument", a, b)
		}
		copy(memoryA, beforeA)
		copy(memoryB, beforeB)
		overwrite(joined)
		if !slices.Equal(memoryA, beforeA) || !slices.Equal(memoryB, beforeB) {
			t.Fatalf("JoinTracks(%v, %v) returns memory of an argument", a, b)
		}
	}
}

// The two parts of one memory are joined where the first one has the second one behind it.
func TestJoiningPartsOfOneMemory(t *testing.T) {
	track := windingTrack(12, 0)
	before := slices.Clone(track.Fixes)
	a, b := impl.Track{Fixes: track.Fixes[:6]}, impl.Track{Fixes: track.Fixes[5:]}
	for _, second := range []impl.Track{b, {Fixes: track.Fixes[6:]}, {Fixes: track.Fixes[8:]}} {
		joined := join(t, a, second)
		overwrite(joined)
		if !slices.Equal(track.Fixes, before) {
			t.Fatalf("JoinTracks(%v, %v) shares memory with its arguments", a, second)
		}
	}
	if joined := join(t, a, b); !sameTrack(joined, track) {
		t.Fatalf("JoinTracks(%v, %v) = %v, want %v", a, b, joined, track)
	}
}

func TestOtherFunctionsKeepTheTrack(t *testing.T) {
	for _, track := range append(validTracks(), trackOf(5, 0, 0, 4, 1, 1)) {
		roomy, memory := roomyTrack(track)
		before := slices.Clone(memory)
		impl.IsTrack(roomy)
		impl.ClosestFix(roomy, impl.Point{X: 3, Y: -4})
		for _, n := range []int64{-1, 0, 1, firstTime(track), lastTime(track)} {
			impl.PositionAt(roomy, n)
			impl.LegAt(roomy, n)
			impl.HeadingAt(roomy, n)
			impl.SpeedOf(roomy, n)
		}
		if !slices.Equal(memory, before) {
			t.Fatalf("the track %v is modified", track)
		}
	}
}
