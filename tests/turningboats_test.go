package tests

import (
	"math/rand"
	"slices"
	"testing"

	"loop.example/g00887/impl"
)

// badSpans are no spans, the nearest ones first.
var badSpans = append([]int64{-1, impl.MaxSpan + 1, -impl.MaxSpan, 2 * impl.MaxSpan, 1 << 32}, extremes...)

var someSpans = []int64{0, 1, 2, 5, 40, 999, impl.MaxSpan - 1, impl.MaxSpan}

// expectedTurns are the times of the manoeuvres, which are told by the tacks of the legs.
func expectedTurns(w impl.Wind, track impl.Track) []int64 {
	times := []int64{}
	before := int64(impl.TackNone)
	for k := range len(track.Fixes) - 1 {
		after := int64(impl.TackNone)
		if v := vector(track, k); v != (impl.Point{}) {
			after = expectedTack(w, v)
		}
		if before+after == impl.TackPort+impl.TackStarboard {
			times = append(times, track.Fixes[k].Time)
		}
		before = after
	}
	return times
}

// isNearTurn looks from the time of each turn, where the program looks from the time that is given.
func isNearTurn(turns []int64, time, span int64) bool {
	return slices.ContainsFunc(turns, func(turn int64) bool { return turn-span <= time && time <= turn+span })
}

func turningAt(t *testing.T, w impl.Wind, track impl.Track, time, span int64) bool {
	t.Helper()
	is, code := impl.TurningAt(w, track, time, span)
	if code != impl.ErrNone {
		t.Fatalf("TurningAt(%v, %v, %d, %d): code %d", w, track, time, span, code)
	}
	return is
}

func refuseTurning(t *testing.T, w impl.Wind, track impl.Track, time, span, want int64) {
	t.Helper()
	if is, code := impl.TurningAt(w, track, time, span); is || code != want {
		t.Fatalf("TurningAt(%v, %v, %d, %d) = %v, %d, want the code %d", w, track, time, span, is, code, want)
	}
}

// checkTurning needs the times of the manoeuvres, and returns the result.
func checkTurning(t *testing.T, w impl.Wind, track impl.Track, time, span int64, turns []int64) bool {
	t.Helper()
	is := turningAt(t, w, track, time, span)
	if want := isNearTurn(turns, time, span); is != want {
		t.Fatalf("TurningAt(%v, %v, %d, %d) = %v, want %v", w, track, time, span, is, want)
	}
	return is
}

// slowZigzag tacks at 100000 and at 300000, and gybes at 400000; it lasts from 50000 to 450000.
func slowZigzag() impl.Track {
	return trackOf(50000, 0, 0, 100000, 30, 40, 200000, 0, 80, 300000, -3, 84, 400000, 27, 124, 450000, 0, 88)
}

func TestTurningAt(t *testing.T) {
	const span = impl.MaxSpan
	for _, row := range []struct {
		name       string
		time, span int64
		want       bool
	}{
		{"at a manoeuvre", 100000, 0, true},
		{"one before it", 99999, 0, false},
		{"one after it", 100001, 0, false},
		{"one before it, with a span of one", 99999, 1, true},
		{"one after it, with a span of one", 100001, 1, true},
		{"two before it, with a span of one", 99998, 1, false},
		{"two after it, with a span of one", 100002, 1, false},
		{"a span before it", 97000, 3000, true},
		{"a span after it", 103000, 3000, true},
		{"more than a span before it", 96999, 3000, false},
		{"more than a span after it", 103001, 3000, false},
		{"at the first time, as far as the span", 50000, 50000, true},
		{"at the first time, farther than the span", 50000, 49999, false},
		{"at the first time, without a span", 50000, 0, false},
		{"at the last time, as far as the span", 450000, 50000, true},
		{"at the last time, farther than the span", 450000, 49999, false},
		{"at the last time, without a span", 450000, 0, false},
		{"the greatest span before it", 240000, span, true},
		{"one more than the greatest span before it", 239999, span, false},
		{"the greatest span after it", 160000, span, true},
		{"one more than the greatest span after it", 160001, span, false},
		{"one less than the greatest span after it", 160000, span - 1, false},
		{"at a fix without a manoeuvre", 200000, span, false},
		{"at the second tack", 300000, 0, true},
		{"between two manoeuvres", 350000, 50000, true},
		{"between two manoeuvres, farther than the span", 350000, 49999, false},
		{"at a gybe", 400000, 0, true},
		{"before a gybe", 399990, 10, true},
		{"after a gybe", 400011, 10, false},
	} {
		t.Run(row.name, func(t *testing.T) {
			south, track := impl.Wind{Y: -10}, slowZigzag()
			checkManoeuvres(t, south, track, []impl.Manoeuvre{tack(1), tack(3), gybe(4)})
			if is := checkTurning(t, south, track, row.time, row.span, expectedTurns(south, track)); is != row.want {
				t.Errorf("TurningAt(%v, %v, %d, %d) = %v", south, track, row.time, row.span, is)
			}
		})
	}
}

// A span may reach beyond the ends of the track, but the time may not.
func TestTurningBesideATrack(t *testing.T) {
	south, track := impl.Wind{Y: -10}, trackOf(5, 0, 0, 6, 3, 4, 7, 0, 8)
	for _, span := range []int64{1, 2, 50, impl.MaxSpan} {
		for time := int64(5); time <= 7; time++ {
			if !turningAt(t, south, track, time, span) {
				t.Errorf("TurningAt(%v, %v, %d, %d) is false", south, track, time, span)
			}
		}
		for _, time := range []int64{4, 8, 0, -1} {
			refuseTurning(t, south, track, time, span, impl.ErrRange)
		}
	}
	for time, want := range map[int64]bool{5: false, 6: true, 7: false} {
		if is := turningAt(t, south, track, time, 0); is != want {
			t.Errorf("TurningAt(%v, %v, %d, 0) = %v", south, track, time, is)
		}
	}
}

// At the ends of all time a fix with a manoeuvre is next to the limit.
func TestTurningAtTheEndsOfTime(t *testing.T) {
	const end = impl.MaxTime
	track := trackOf(0, 0, 0, 1, 3, 4, end-1, 0, 8, end, 3, 12)
	for _, row := range []struct {
		time, span int64
		want       bool
	}{
		{0, 0, false}, {0, 1, true}, {1, 0, true}, {2, 0, false}, {2, 1, true}, {impl.MaxSpan + 1, impl.MaxSpan, true}, {impl.MaxSpan + 2, impl.MaxSpan, false},
		{end, 0, false}, {end, 1, true}, {end - 1, 0, true}, {end - 2, 0, false}, {end - 1 - impl.MaxSpan, impl.MaxSpan, true}, {end - 2 - impl.MaxSpan, impl.MaxSpan, false},
		{end / 2, impl.MaxSpan, false},
	} {
		if is := turningAt(t, toSouth, track, row.time, row.span); is != row.want {
			t.Errorf("TurningAt(%v, %v, %d, %d) = %v", toSouth, track, row.time, row.span, is)
		}
	}
	for _, time := range []int64{-1, end + 1} {
		refuseTurning(t, toSouth, track, time, impl.MaxSpan, impl.ErrRange)
	}
}

func TestTracksWithoutManoeuvres(t *testing.T) {
	for _, track := range []impl.Track{
		trackOf(0, 0, 0, 10, 3, 4), stay(impl.Point{X: 5}),
		sailingAlong(impl.Point{}, portUp, portDown, portUp), sailingAlong(impl.Point{}, portUp, noLength, starboardUp),
		sailingAlong(impl.Point{}, portUp, straightUp, starboardUp), sailingAlong(impl.Point{}, straightUp, straightDown, straightUp),
	} {
		for _, time := range timesWithin(track) {
			for _, span := range someSpans {
				if turningAt(t, toSouth, track, time, span) {
					t.Fatalf("TurningAt(%v, %v, %d, %d) is true", toSouth, track, time, span)
				}
			}
		}
	}
}

func TestTurningOnAllTracks(t *testing.T) {
	for k, w := range validWinds() {
		for n, track := range sailedTracks() {
			// A few of the pairs, to save time: each wind and each track is in some of them.
			if (k+n)%6 != 0 {
				continue
			}
			turns := expectedTurns(w, track)
			for _, time := range timesWithin(track) {
				checkTurning(t, w, track, time, someSpans[(k+n/6+int(time%7))%len(someSpans)], turns)
			}
			for _, time := range timesOutside(track) {
				refuseTurning(t, w, track, time, 0, impl.ErrRange)
				refuseTurning(t, w, track, time, impl.MaxSpan, impl.ErrRange)
			}
		}
	}
	counts := map[bool]int{}
	random := rand.New(rand.NewSource(44))
	for k := range 1000 {
		w, track := randomWind(random, []int64{2, impl.MaxWind}[k%2]), randomTrack(random)
		turns := expectedTurns(w, track)
		for _, time := range timesWithin(track) {
			counts[checkTurning(t, w, track, time, random.Int63n(4), turns)]++
		}
	}
	if counts[true] < 5000 || counts[false] < 5000 {
		t.Errorf("turning: %v", counts)
	}
}

// A longer span never ends a turn, and at the time of a manoeuvre a boat is turning with any span.
func TestLongerSpans(t *testing.T) {
	random := rand.New(rand.NewSource(45))
	for range 200 {
		w, track := randomWind(random, 5), randomTrack(random)
		for _, time := range timesWithin(track) {
			was := false
			for _, span := range someSpans {
				is := turningAt(t, w, track, time, span)
				if was && !is {
					t.Fatalf("TurningAt(%v, %v, %d, %d) is false, but true for a shorter span", w, track, time, span)
				}
				was = is
			}
		}
		for _, m := range manoeuvresOf(t, w, track) {
			for _, span := range someSpans {
				if !turningAt(t, w, track, track.Fixes[m.Fix].Time, span) {
					t.Fatalf("TurningAt(%v, %v, .., %d) is false at %v", w, track, span, m)
				}
			}
		}
	}
}

func TestBadSpans(t *testing.T) {
	for _, track := range sailedTracks() {
		for k, span := range badSpans {
			for _, time := range timesWithin(track) {
				refuseTurning(t, toSouth, track, time, span, impl.ErrRange)
			}
			refuseTurning(t, toSouth, track, timesOutside(track)[k%4], span, impl.ErrRange)
		}
	}
}

// ErrInvalid comes ahead of ErrRange.
func TestTurningInInvalidWindsOrOnInvalidTracks(t *testing.T) {
	good := slowZigzag()
	spans := append([]int64{0, impl.MaxSpan}, badSpans...)
	for k, bad := range invalidWinds() {
		for _, track := range []impl.Track{good, stay(impl.Point{}), windingTrack(impl.MaxFixes, 0), {}, windingTrack(impl.MaxFixes+1, 0)} {
			for _, time := range append([]int64{0, 100000, impl.MaxTime + 1}, extremes...) {
				refuseTurning(t, bad, track, time, spans[k%len(spans)], impl.ErrInvalid)
			}
		}
		refuseTurning(t, bad, good, 100000, 0, impl.ErrInvalid)
		refuseTurning(t, bad, good, 100000, -1, impl.ErrInvalid)
	}
	for k, bad := range invalidTracks() {
		for _, w := range []impl.Wind{toSouth, {X: impl.MaxWind, Y: -impl.MaxWind}, {}} {
			for _, time := range append([]int64{-1, 0, 10, 12, impl.MaxTime}, extremes...) {
				refuseTurning(t, w, bad, time, spans[k%len(spans)], impl.ErrInvalid)
			}
			refuseTurning(t, w, bad, 10, 0, impl.ErrInvalid)
		}
	}
}

func TestTurningAtKeepsItsTrack(t *testing.T) {
	for _, track := range append(sailedTracks(), slowZigzag(), trackOf(5, 0, 0, 5, 1, 1)) {
		roomy, memory := roomyTrack(track)
		before := slices.Clone(memory)
		for _, time := range []int64{-1, firstTime(track), lastTime(track), 12} {
			for _, span := range []int64{-1, 0, 9, impl.MaxSpan} {
				impl.TurningAt(toSouth, roomy, time, span)
				impl.BoatAt(toSouth, roomy, time, 30, span)
				impl.RuleAt(toSouth, roomy, roomy, time, 30, span)
			}
		}
		if !slices.Equal(memory, before) {
			t.Fatalf("the track %v is modified", track)
		}
	}
}
