package tests

import (
	"math/rand"
	"testing"

	"loop.example/g00887/impl"
)

// expectedBoatAt is for valid winds and tracks. It returns the code too.
func expectedBoatAt(w impl.Wind, track impl.Track, time, length, span int64) (impl.Boat, int64) {
	if time < firstTime(track) || time > lastTime(track) || span < 0 || span > impl.MaxSpan || length < 1 || length > impl.MaxHullLength {
		return impl.Boat{}, impl.ErrRange
	}
	h, code := expectedHullAt(track, time, length)
	if code != impl.ErrNone {
		return impl.Boat{}, code
	}
	return impl.Boat{Hull: h, Turning: isNearTurn(expectedTurns(w, track), time, span)}, impl.ErrNone
}

// expectedRuleAt lets the codes of the first track come ahead of those of the second one.
func expectedRuleAt(w impl.Wind, first, second impl.Track, time, length, span int64) (impl.Ruling, int64) {
	boats := [2]impl.Boat{}
	for k, track := range []impl.Track{first, second} {
		b, code := expectedBoatAt(w, track, time, length, span)
		if code != impl.ErrNone {
			return impl.Ruling{}, code
		}
		boats[k] = b
	}
	return expectedRuling(w, boats[0], boats[1]), impl.ErrNone
}

func checkBoatAt(t *testing.T, w impl.Wind, track impl.Track, time, length, span int64) {
	t.Helper()
	want, wantCode := expectedBoatAt(w, track, time, length, span)
	if b, code := impl.BoatAt(w, track, time, length, span); b != want || code != wantCode {
		t.Fatalf("BoatAt(%v, %v, %d, %d, %d) = %v, %d, want %v, %d", w, track, time, length, span, b, code, want, wantCode)
	}
}

func checkRuleAt(t *testing.T, w impl.Wind, first, second impl.Track, time, length, span int64) (impl.Ruling, int64) {
	t.Helper()
	want, wantCode := expectedRuleAt(w, first, second, time, length, span)
	r, code := impl.RuleAt(w, first, second, time, length, span)
	if r != want || code != wantCode {
		t.Fatalf("RuleAt(%v, %v, %v, %d, %d, %d) = %v, %d, want %v, %d", w, first, second, time, length, span, r, code, want, wantCode)
	}
	if back, backCode := impl.RuleAt(w, second, first, time, length, span); code == impl.ErrNone && (backCode != impl.ErrNone || back != exchangedRuling(r)) {
		t.Fatalf("RuleAt(%v, %v, %v, %d, %d, %d) = %v, but exchanged %v, %d", w, first, second, time, length, span, r, back, backCode)
	}
	return r, code
}

func refuseBoatAt(t *testing.T, w impl.Wind, track impl.Track, time, length, span, want int64) {
	t.Helper()
	if b, code := impl.BoatAt(w, track, time, length, span); b != (impl.Boat{}) || code != want {
		t.Fatalf("BoatAt(%v, %v, %d, %d, %d) = %v, %d, want the code %d", w, track, time, length, span, b, code, want)
	}
}

func refuseRuleAt(t *testing.T, w impl.Wind, first, second impl.Track, time, length, span, want int64) {
	t.Helper()
	if r, code := impl.RuleAt(w, first, second, time, length, span); r != (impl.Ruling{}) || code != want {
		t.Fatalf("RuleAt(%v, %v, %v, %d, %d, %d) = %v, %d, want the code %d", w, first, second, time, length, span, r, code, want)
	}
}

// pausingTrack tacks at 15, lies still from 25 to 35, and sails to the south until 45.
func pausingTrack() impl.Track {
	return later(sailingAlong(impl.Point{}, portUp, starboardUp, noLength, straightDown), 5)
}

func TestBoatAt(t *testing.T) {
	const m, end = impl.MaxCoord, impl.MaxTime
	south, track := impl.Wind{Y: -10}, pausingTrack()
	far := trackOf(0, -m, m, end, m, -m)
	for _, row := range []struct {
		name               string
		track              impl.Track
		time, length, span int64
		want               impl.Boat
		code               int64
	}{
		{"one before the first fix", track, 4, 30, 10, impl.Boat{}, impl.ErrRange},
		{"at the first fix", track, 5, 30, 0, steady(hullOf(0, 0, 3, 4, 30)), impl.ErrNone},
		{"at the first fix, turning", track, 5, 30, 10, turning(hullOf(0, 0, 3, 4, 30)), impl.ErrNone},
		{"before the tack", track, 10, 30, 4, steady(hullOf(1, 2, 3, 4, 30)), impl.ErrNone},
		{"before the tack, turning", track, 10, 30, 5, turning(hullOf(1, 2, 3, 4, 30)), impl.ErrNone},
		{"at the tack", track, 15, 30, 0, turning(hullOf(3, 4, -3, 4, 30)), impl.ErrNone},
		{"after the tack", track, 20, 30, 4, steady(hullOf(1, 6, -3, 4, 30)), impl.ErrNone},
		{"after the tack, turning", track, 20, 30, 5, turning(hullOf(1, 6, -3, 4, 30)), impl.ErrNone},
		{"without length", track, 25, 30, 10, impl.Boat{}, impl.ErrState},
		{"without length, to its end", track, 34, 30, 0, impl.Boat{}, impl.ErrState},
		{"on no tack", track, 35, 30, 19, steady(hullOf(0, 8, 0, -5, 30)), impl.ErrNone},
		{"on no tack, turning", track, 35, 30, 20, turning(hullOf(0, 8, 0, -5, 30)), impl.ErrNone},
		{"at the last fix", track, 45, 30, 29, steady(hullOf(0, 3, 0, -5, 30)), impl.ErrNone},
		{"at the last fix, turning", track, 45, 30, impl.MaxSpan, turning(hullOf(0, 3, 0, -5, 30)), impl.ErrNone},
		{"one after the last fix", track, 46, 30, impl.MaxSpan, impl.Boat{}, impl.ErrRange},
		{"no length of the hull", track, 10, 0, 0, impl.Boat{}, impl.ErrRange},
		{"least length", track, 10, 1, 0, steady(hullOf(1, 2, 3, 4, 1)), impl.ErrNone},
		{"greatest length", track, 10, 1000, 0, steady(hullOf(1, 2, 3, 4, 1000)), impl.ErrNone},
		{"too long", track, 10, 1001, 0, impl.Boat{}, impl.ErrRange},
		{"a negative span", track, 10, 30, -1, impl.Boat{}, impl.ErrRange},
		{"too long a span", track, 10, 30, impl.MaxSpan + 1, impl.Boat{}, impl.ErrRange},
		{"without length, and a negative span", track, 30, 30, -1, impl.Boat{}, impl.ErrRange},
		{"without length, and too long a span", track, 30, 30, impl.MaxSpan + 1, impl.Boat{}, impl.ErrRange},
		{"without length, and no length of the hull", track, 30, 0, 0, impl.Boat{}, impl.ErrRange},
		{"without length, and too long a hull", track, 30, 1001, 0, impl.Boat{}, impl.ErrRange},
		{"a track that is not valid", impl.Track{}, 0, 0, -1, impl.Boat{}, impl.ErrInvalid},
		{"a track that is not valid, without length", trackOf(10, 1, 1, 20, 1, 1, 20, 1, 1), 15, 30, 0, impl.Boat{}, impl.ErrInvalid},
		{"farthest, in its middle", far, end / 2, 1000, impl.MaxSpan, steady(hullOf(0, 0, 2*m, -2*m, 1000)), impl.ErrNone},
		{"farthest, at its end", far, end, 1, 0, steady(hullOf(m, -m, 2*m, -2*m, 1)), impl.ErrNone},
	} {
		if b, code := impl.BoatAt(south, row.track, row.time, row.length, row.span); b != row.want || code != row.code {
			t.Errorf("%s: BoatAt(%v, %v, %d, %d, %d) = %v, %d, want %v, %d", row.name, south, row.track, row.time, row.length, row.span, b, code, row.want, row.code)
		}
		refuseBoatAt(t, impl.Wind{}, row.track, row.time, row.length, row.span, impl.ErrInvalid)
	}
}

func TestBoatsOfAllTracks(t *testing.T) {
	for n, track := range sailedTracks() {
		for k, time := range append(timesWithin(track), timesOutside(track)...) {
			w := []impl.Wind{toSouth, {X: 3, Y: 4}, {X: -impl.MaxWind, Y: 999}}[k%3]
			length, span := someHulls[k%len(someHulls)], someSpans[(n+k)%len(someSpans)]
			checkBoatAt(t, w, track, time, length, span)
			checkBoatAt(t, w, track, time, badHulls[k%len(badHulls)], span)
			checkBoatAt(t, w, track, time, length, badSpans[k%len(badSpans)])
			refuseBoatAt(t, impl.Wind{}, track, time, length, span, impl.ErrInvalid)
		}
	}
}

// The parts of a boat are what HullAt and TurningAt say, with their codes.
func TestBoatAtIsItsHullAndItsTurn(t *testing.T) {
	for k, track := range sailedTracks() {
		span := someSpans[k%len(someSpans)]
		for _, time := range append(timesWithin(track), timesOutside(track)...) {
			is, wantCode := impl.TurningAt(toSouth, track, time, span)
			h, hullCode := impl.HullAt(track, time, 44)
			want := impl.Boat{Hull: h, Turning: is}
			if wantCode == impl.ErrNone && hullCode != impl.ErrNone {
				want, wantCode = impl.Boat{}, hullCode
			}
			if b, code := impl.BoatAt(toSouth, track, time, 44, span); b != want || code != wantCode {
				t.Fatalf("BoatAt(%v, %v, %d, 44, %d) = %v, %d, want %v, %d", toSouth, track, time, span, b, code, want, wantCode)
			}
		}
	}
}

func TestRuleAt(t *testing.T) {
	south := impl.Wind{Y: -10}
	tacking := sailingAlong(impl.Point{}, portUp, starboardUp)
	gybing := sailingAlong(impl.Point{X: 5}, starboardDown, portDown)
	for _, row := range []struct {
		name               string
		first, second      impl.Track
		time, length, span int64
		want               impl.Ruling
	}{
		{"one on port tack", tacking, gybing, 5, 30, 0, keptClearIf(true, impl.ReasonOpposite)},
		{"the other one on port tack", tacking, gybing, 15, 30, 0, keptClearIf(false, impl.ReasonOpposite)},
		{"both turning", tacking, gybing, 10, 30, 0, unclear},
		{"both turning, a span before it", tacking, gybing, 5, 30, 5, unclear},
		{"one turning", tacking, later(gybing, 1), 10, 30, 0, keptClearIf(true, impl.ReasonTurning)},
		{"the other one turning", tacking, later(gybing, 1), 11, 30, 0, keptClearIf(false, impl.ReasonTurning)},
		{"none turning any more", tacking, later(gybing, 1), 12, 30, 0, keptClearIf(false, impl.ReasonOpposite)},
		{"both turning, by the span", tacking, later(gybing, 1), 11, 30, 1, unclear},
		{"to windward", tacking, sailingAlong(impl.Point{X: 3, Y: -2}, portUp), 5, 30, 0, keptClearIf(true, impl.ReasonWindward)},
		{"to leeward", tacking, sailingAlong(impl.Point{X: -3, Y: 2}, portUp), 5, 30, 0, keptClearIf(false, impl.ReasonWindward)},
		{"level", tacking, sailingAlong(impl.Point{X: -3}, portUp), 5, 30, 0, unclear},
		{"astern", tacking, sailingAlong(impl.Point{X: -30, Y: -40}, portUp), 5, 49, 0, keptClearIf(false, impl.ReasonAstern)},
		{"not astern of a longer boat", tacking, sailingAlong(impl.Point{X: -30, Y: -40}, portUp), 5, 50, 0, keptClearIf(true, impl.ReasonWindward)},
		{"ahead", tacking, sailingAlong(impl.Point{X: 30, Y: 40}, portUp), 5, 49, 0, keptClearIf(true, impl.ReasonAstern)},
		{"turning, with one astern", tacking, sailingAlong(impl.Point{X: -30, Y: -40}, portUp), 5, 49, 5, keptClearIf(true, impl.ReasonTurning)},
		{"on no tack", tacking, sailingAlong(impl.Point{X: -30, Y: -40}, straightUp), 5, 49, 0, unclear},
		{"on no tack, and the other one turning", tacking, sailingAlong(impl.Point{X: -30, Y: -40}, straightUp), 5, 49, 5, keptClearIf(true, impl.ReasonTurning)},
	} {
		t.Run(row.name, func(t *testing.T) {
			if r, code := checkRuleAt(t, south, row.first, row.second, row.time, row.length, row.span); r != row.want || code != impl.ErrNone {
				t.Errorf("RuleAt(%v, %v, %v, %d, %d, %d) = %v, %d, want %v", south, row.first, row.second, row.time, row.length, row.span, r, code, row.want)
			}
			if r, code := checkRuleAt(t, south, row.second, row.first, row.time, row.length, row.span); r != exchangedRuling(row.want) || code != impl.ErrNone {
				t.Errorf("exchanged, RuleAt is %v, %d", r, code)
			}
		})
	}
}

// The codes come in the order of their steps, those of the first track ahead of those of the second
// one, so that ErrState of the first one comes ahead of ErrInvalid of the second one.
func TestCodesOfRuleAt(t *testing.T) {
	good, still, short := sailingAlong(impl.Point{}, portUp, starboardUp, portUp), stay(impl.Point{X: 4}), trackOf(0, 0, 0, 9, 3, 4)
	invalid := trackOf(15, 0, 0, 15, 1, 1)
	for _, row := range []struct {
		name          string
		first, second impl.Track
		length, span  int64
		code          int64
	}{
		{"good", good, good, 30, 5, impl.ErrNone},
		{"the first track invalid", invalid, good, 30, 5, impl.ErrInvalid},
		{"the second track invalid", good, invalid, 30, 5, impl.ErrInvalid},
		{"the first track out of range", short, good, 30, 5, impl.ErrRange},
		{"the second track out of range", good, short, 30, 5, impl.ErrRange},
		{"the first track still", still, good, 30, 5, impl.ErrState},
		{"the second track still", good, still, 30, 5, impl.ErrState},
		{"both still", still, still, 30, 5, impl.ErrState},
		{"invalid, then still", invalid, still, 30, 5, impl.ErrInvalid},
		{"still, then invalid", still, invalid, 30, 5, impl.ErrState},
		{"invalid, then out of range", invalid, short, 30, 5, impl.ErrInvalid},
		{"out of range, then invalid", short, invalid, 30, 5, impl.ErrRange},
		{"out of range, then still", short, still, 30, 5, impl.ErrRange},
		{"still, then out of range", still, short, 30, 5, impl.ErrState},
		{"no length", good, good, 0, 5, impl.ErrRange},
		{"too long", good, good, 1001, 5, impl.ErrRange},
		{"a negative span", good, good, 30, -1, impl.ErrRange},
		{"too long a span", good, good, 30, impl.MaxSpan + 1, impl.ErrRange},
		{"no length, then invalid", good, invalid, 0, 5, impl.ErrRange},
		{"a negative span, then invalid", good, invalid, 30, -1, impl.ErrRange},
		{"invalid, and no length", invalid, good, 0, 5, impl.ErrInvalid},
		{"invalid, and a negative span", invalid, good, 30, -1, impl.ErrInvalid},
		{"still, and no length", still, good, 0, 5, impl.ErrRange},
		{"still, and a negative span", still, good, 30, -1, impl.ErrRange},
	} {
		r, code := impl.RuleAt(toSouth, row.first, row.second, 15, row.length, row.span)
		if code != row.code || code != impl.ErrNone && r != (impl.Ruling{}) {
			t.Errorf("%s: RuleAt = %v, %d, want the code %d", row.name, r, code, row.code)
		}
		refuseRuleAt(t, impl.Wind{}, row.first, row.second, 15, row.length, row.span, impl.ErrInvalid)
		refuseRuleAt(t, impl.Wind{X: impl.MaxWind + 1}, row.first, row.second, 15, row.length, row.span, impl.ErrInvalid)
	}
}

func TestRuleAtWithInvalidTracksAndWinds(t *testing.T) {
	good := sailingAlong(impl.Point{}, portUp, starboardUp)
	for _, bad := range invalidTracks() {
		for _, time := range []int64{-1, 0, 10, 20, 21} {
			refuseRuleAt(t, toSouth, bad, good, time, 30, 5, impl.ErrInvalid)
			refuseRuleAt(t, toSouth, bad, bad, time, 0, -1, impl.ErrInvalid)
			refuseBoatAt(t, toSouth, bad, time, 30, 5, impl.ErrInvalid)
			refuseBoatAt(t, toSouth, bad, time, 0, -1, impl.ErrInvalid)
		}
		refuseRuleAt(t, toSouth, good, bad, 10, 30, 5, impl.ErrInvalid)
		refuseRuleAt(t, toSouth, good, bad, 21, 30, 5, impl.ErrRange)
	}
	for _, bad := range invalidWinds() {
		for _, time := range []int64{-1, 0, 10, 20, 21} {
			refuseRuleAt(t, bad, good, good, time, 30, 5, impl.ErrInvalid)
			refuseBoatAt(t, bad, good, time, 30, 5, impl.ErrInvalid)
			refuseBoatAt(t, bad, good, time, 0, -1, impl.ErrInvalid)
		}
	}
	for _, length := range badHulls {
		refuseRuleAt(t, toSouth, good, good, 10, length, 5, impl.ErrRange)
	}
	for _, span := range badSpans {
		refuseRuleAt(t, toSouth, good, good, 10, 30, span, impl.ErrRange)
	}
	for _, time := range timesOutside(good) {
		refuseRuleAt(t, toSouth, good, good, time, 30, 5, impl.ErrRange)
	}
}

func TestATrackWithItselfIsUnclear(t *testing.T) {
	for k, track := range sailedTracks() {
		for _, time := range timesWithin(track) {
			r, code := checkRuleAt(t, toSouth, track, track, time, someHulls[k%len(someHulls)], someSpans[k%len(someSpans)])
			if code == impl.ErrNone && r != unclear || code != impl.ErrNone && code != impl.ErrState {
				t.Fatalf("RuleAt(%v, %v, itself, %d, ..) = %v, %d", toSouth, track, time, r, code)
			}
		}
	}
}

func TestRulingsOfRandomTracks(t *testing.T) {
	counts, codes := map[impl.Ruling]int{}, map[int64]int{}
	random := rand.New(rand.NewSource(46))
	for k := range 300 {
		w, first, second := randomWind(random, []int64{2, impl.MaxWind}[k%2]), randomTrack(random), randomTrack(random)
		length, span := 1+random.Int63n(20), random.Int63n(2)
		for _, time := range append(timesWithin(first), lastTime(first)+1) {
			r, code := checkRuleAt(t, w, first, second, time, length, span)
			counts[r]++
			codes[code]++
		}
	}
	for s, r := range rulingTexts {
		if counts[r] < 40 {
			t.Errorf("only %d rulings are %q", counts[r], s)
		}
	}
	if codes[impl.ErrNone] < 2000 || codes[impl.ErrRange] < 300 {
		t.Errorf("codes: %v", codes)
	}
}
