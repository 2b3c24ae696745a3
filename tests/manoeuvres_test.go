package tests

import (
	"math/rand"
	"slices"
	"testing"

	"loop.example/g00887/impl"
)

// sailingAlong is the track of a boat that begins at a point and sails along the vectors, for 10
// milliseconds each.
func sailingAlong(p impl.Point, legs ...impl.Point) impl.Track {
	track := trackOf(0, p.X, p.Y)
	for k, v := range legs {
		p = impl.Point{X: p.X + v.X, Y: p.Y + v.Y}
		track.Fixes = append(track.Fixes, impl.Fix{Time: int64(k+1) * 10, X: p.X, Y: p.Y})
	}
	return track
}

// vector returns the vector of a leg, which is 0 if it has no length.
func vector(track impl.Track, k int) impl.Point {
	leg := legOf(track, k)
	return impl.Point{X: leg.B.X - leg.A.X, Y: leg.B.Y - leg.A.Y}
}

func hasTack(w impl.Wind, h impl.Point) bool {
	return h != (impl.Point{}) && expectedTack(w, h) != impl.TackNone
}

// expectedKind adds the two quotients after each of them is rounded down.
func expectedKind(w impl.Wind, before, after impl.Point) int64 {
	sum := int64(0)
	for _, h := range []impl.Point{before, after} {
		_, d := products(w, h)
		sum += roundedDown(d, rootOfSquares(h.X, h.Y))
	}
	if sum < 0 {
		return impl.TurnTack
	}
	return impl.TurnGybe
}

func expectedManoeuvres(w impl.Wind, track impl.Track) []impl.Manoeuvre {
	list := []impl.Manoeuvre{}
	for fix := range track.Fixes {
		if fix == 0 || fix == len(track.Fixes)-1 {
			continue
		}
		before, after := vector(track, fix-1), vector(track, fix)
		if hasTack(w, before) && hasTack(w, after) && expectedTack(w, before) != expectedTack(w, after) {
			list = append(list, impl.Manoeuvre{Fix: int64(fix), Kind: expectedKind(w, before, after)})
		}
	}
	return list
}

func manoeuvresOf(t *testing.T, w impl.Wind, track impl.Track) []impl.Manoeuvre {
	t.Helper()
	list, code := impl.ManoeuvresOf(w, track)
	if code != impl.ErrNone {
		t.Fatalf("ManoeuvresOf(%v, %v): code %d", w, track, code)
	}
	return list
}

func checkManoeuvres(t *testing.T, w impl.Wind, track impl.Track, want []impl.Manoeuvre) {
	t.Helper()
	if list := manoeuvresOf(t, w, track); !slices.Equal(list, want) {
		t.Fatalf("ManoeuvresOf(%v, %v) = %v, want %v", w, track, list, want)
	}
	if list := expectedManoeuvres(w, track); !slices.Equal(list, want) {
		t.Fatalf("the tests expect %v of %v and %v", list, w, track)
	}
}

func tack(fix int64) impl.Manoeuvre { return impl.Manoeuvre{Fix: fix, Kind: impl.TurnTack} }

func gybe(fix int64) impl.Manoeuvre { return impl.Manoeuvre{Fix: fix, Kind: impl.TurnGybe} }

// Headings in a wind toward the south.
var (
	portUp, portDown           = impl.Point{X: 3, Y: 4}, impl.Point{X: 3, Y: -4}
	starboardUp, starboardDown = impl.Point{X: -3, Y: 4}, impl.Point{X: -3, Y: -4}
	straightUp, straightDown   = impl.Point{Y: 5}, impl.Point{Y: -5}
	noLength                   = impl.Point{}
)

func TestManoeuvresOf(t *testing.T) {
	south := impl.Wind{Y: -10}
	for _, row := range []struct {
		name string
		legs []impl.Point
		want []impl.Manoeuvre
	}{
		{"one leg", []impl.Point{portUp}, nil},
		{"one leg without length", []impl.Point{noLength}, nil},
		{"straight on", []impl.Point{portUp, portUp, portUp}, nil},
		{"on one tack", []impl.Point{portUp, portDown, portUp}, nil},
		{"on the other tack", []impl.Point{starboardUp, starboardDown, starboardDown}, nil},
		{"a tack at the only fix", []impl.Point{portUp, starboardUp}, []impl.Manoeuvre{tack(1)}},
		{"a tack back", []impl.Point{starboardUp, portUp}, []impl.Manoeuvre{tack(1)}},
		{"a gybe", []impl.Point{portDown, starboardDown}, []impl.Manoeuvre{gybe(1)}},
		{"a gybe back", []impl.Point{starboardDown, portDown}, []impl.Manoeuvre{gybe(1)}},
		{"from upwind to downwind", []impl.Point{portUp, starboardDown}, []impl.Manoeuvre{gybe(1)}},
		{"from downwind to upwind", []impl.Point{portDown, starboardUp}, []impl.Manoeuvre{gybe(1)}},
		{"at the first fix only", []impl.Point{portUp, starboardUp, starboardUp, starboardUp}, []impl.Manoeuvre{tack(1)}},
		{"at the last fix only", []impl.Point{portUp, portUp, portUp, starboardUp}, []impl.Manoeuvre{tack(3)}},
		{"in the middle", []impl.Point{portUp, portUp, starboardUp, starboardUp}, []impl.Manoeuvre{tack(2)}},
		{"at consecutive fixes", []impl.Point{portUp, starboardUp, portUp, starboardUp}, []impl.Manoeuvre{tack(1), tack(2), tack(3)}},
		{"round a mark", []impl.Point{portUp, starboardUp, starboardDown, portDown}, []impl.Manoeuvre{tack(1), gybe(3)}},
		{"a leg without length before", []impl.Point{noLength, portUp, starboardUp}, []impl.Manoeuvre{tack(2)}},
		{"a leg without length after", []impl.Point{portUp, starboardUp, noLength}, []impl.Manoeuvre{tack(1)}},
		{"a leg without length between", []impl.Point{portUp, noLength, starboardUp}, nil},
		{"two legs without length between", []impl.Point{portDown, noLength, noLength, starboardDown}, nil},
		{"a leg without length behind a gybe", []impl.Point{portDown, starboardDown, noLength, portDown, starboardDown}, []impl.Manoeuvre{gybe(1), gybe(4)}},
		{"legs without length only", []impl.Point{noLength, noLength, noLength}, nil},
		{"through the wind", []impl.Point{portUp, straightUp, starboardUp}, nil},
		{"before the wind", []impl.Point{starboardDown, straightDown, portDown}, nil},
		{"on no tack first", []impl.Point{straightUp, portUp, starboardUp}, []impl.Manoeuvre{tack(2)}},
		{"on no tack last", []impl.Point{portUp, starboardUp, straightUp}, []impl.Manoeuvre{tack(1)}},
		{"on no tack only", []impl.Point{straightUp, straightDown, straightUp}, nil},
		{"reaching back", []impl.Point{{X: 5}, {X: -5}}, []impl.Manoeuvre{gybe(1)}},
	} {
		t.Run(row.name, func(t *testing.T) {
			checkManoeuvres(t, south, sailingAlong(impl.Point{X: 7, Y: -2}, row.legs...), row.want)
		})
	}
}

// The wind is toward the south, so that the scalar product is -Y times its strength.
func TestTacksAndGybes(t *testing.T) {
	const m = impl.MaxCoord
	for _, row := range []struct {
		name          string
		strength      int64
		before, after impl.Point
		want          int64
	}{
		{"-8 and 8", 10, impl.Point{X: 3, Y: 4}, impl.Point{X: -3, Y: -4}, impl.TurnGybe},
		{"8 and -8", 10, impl.Point{X: 3, Y: -4}, impl.Point{X: -3, Y: 4}, impl.TurnGybe},
		{"-8 and 8, the first leg is longer", 10, impl.Point{X: 30, Y: 40}, impl.Point{X: -3, Y: -4}, impl.TurnGybe},
		{"-8 and 8, the second leg is longer", 10, impl.Point{X: 3, Y: 4}, impl.Point{X: -30, Y: -40}, impl.TurnGybe},
		{"8 and -8, the second leg is longer", 10, impl.Point{X: 3, Y: -4}, impl.Point{X: -30, Y: 40}, impl.TurnGybe},
		{"-6 and 8, the first leg is longer", 10, impl.Point{X: 40, Y: 30}, impl.Point{X: -3, Y: -4}, impl.TurnGybe},
		{"-8 and 6, the second leg is longer", 10, impl.Point{X: 3, Y: 4}, impl.Point{X: -40, Y: -30}, impl.TurnTack},
		{"0 and 0", 10, impl.Point{X: 5}, impl.Point{X: -5}, impl.TurnGybe},
		{"-1 and 0", 1, impl.Point{X: 5, Y: 1}, impl.Point{X: -5}, impl.TurnTack},
		{"0 and -1", 1, impl.Point{X: 5}, impl.Point{X: -5, Y: 1}, impl.TurnTack},
		{"0 and 1", 1, impl.Point{X: 5}, impl.Point{X: -1, Y: -1}, impl.TurnGybe},
		{"-1/2 and 1/2, rounded down to -1 and 0", 1, impl.Point{X: 2, Y: 1}, impl.Point{X: -2, Y: -1}, impl.TurnTack},
		{"1/2 and -1/2, rounded down to 0 and -1", 1, impl.Point{X: 2, Y: -1}, impl.Point{X: -2, Y: 1}, impl.TurnTack},
		{"-1/2 and 4/7, rounded down to -1 and 0", 1, impl.Point{X: 2, Y: 1}, impl.Point{X: -6, Y: -4}, impl.TurnTack},
		{"-1/9 and 8/9, rounded down to -1 and 0", 1, impl.Point{X: 9, Y: 1}, impl.Point{X: -5, Y: -8}, impl.TurnTack},
		{"-1/2 and 1, rounded down to -1 and 1", 1, impl.Point{X: 2, Y: 1}, impl.Point{X: -1, Y: -1}, impl.TurnGybe},
		{"-8 and 10, by a root that is rounded down", 10, impl.Point{X: 3, Y: 4}, impl.Point{X: -1, Y: -1}, impl.TurnGybe},
		{"-10, by a root that is rounded down, and 9", 10, impl.Point{X: 1, Y: 1}, impl.Point{X: -5, Y: -12}, impl.TurnTack},
		{"10 and -10, both by a root that is rounded down", 10, impl.Point{X: 1, Y: -1}, impl.Point{X: -1, Y: 1}, impl.TurnGybe},
		{"20/3 and -20/3, rounded down to 6 and -7", 10, impl.Point{X: 3, Y: -2}, impl.Point{X: -3, Y: 2}, impl.TurnTack},
		{"20/3 and -6, rounded down to 6 and -6", 10, impl.Point{X: 3, Y: -2}, impl.Point{X: -4, Y: 3}, impl.TurnGybe},
		{"greatest, opposite", 1000, impl.Point{X: 2 * m, Y: 2 * m}, impl.Point{X: -2 * m, Y: -2 * m}, impl.TurnTack},
		{"greatest, opposite, rounded to -1 and 0", 1, impl.Point{X: 2 * m, Y: 1}, impl.Point{X: -2 * m, Y: -1}, impl.TurnTack},
		{"greatest, -1 and 1", 1, impl.Point{X: 2 * m, Y: 1}, impl.Point{X: -1, Y: -1}, impl.TurnGybe},
	} {
		t.Run(row.name, func(t *testing.T) {
			start := impl.Point{}
			if row.before.X > m {
				start = impl.Point{X: -m, Y: -m}
			}
			track := sailingAlong(start, row.before, row.after)
			checkManoeuvres(t, impl.Wind{Y: -row.strength}, track, []impl.Manoeuvre{{Fix: 1, Kind: row.want}})
		})
	}
}

// quarterTurns returns a wind and a track turned to the left by right angles.
func quarterTurns(w impl.Wind, track impl.Track, n int) (impl.Wind, impl.Track) {
	fixes := slices.Clone(track.Fixes)
	for range n {
		w = impl.Wind{X: -w.Y, Y: w.X}
		for k, f := range fixes {
			fixes[k] = impl.Fix{Time: f.Time, X: -f.Y, Y: f.X}
		}
	}
	return w, impl.Track{Fixes: fixes}
}

func TestManoeuvresInAllPatterns(t *testing.T) {
	headings := []impl.Point{portUp, portDown, starboardUp, starboardDown, straightUp, straightDown, noLength}
	for n := 1; n <= 4; n++ {
		patterns := 1
		for range n {
			patterns *= len(headings)
		}
		for pattern := range patterns {
			legs := []impl.Point{}
			for rest := pattern; len(legs) < n; rest /= len(headings) {
				legs = append(legs, headings[rest%len(headings)])
			}
			track := sailingAlong(impl.Point{X: 1, Y: 2}, legs...)
			want := expectedManoeuvres(toSouth, track)
			for turns := range 4 {
				w, turned := quarterTurns(toSouth, track, turns)
				checkManoeuvres(t, w, turned, want)
			}
		}
	}
}

func TestManoeuvresInALongZigzag(t *testing.T) {
	for n := 2; n <= impl.MaxFixes; n++ {
		up, down := impl.Track{}, impl.Track{}
		tacks, gybes := []impl.Manoeuvre{}, []impl.Manoeuvre{}
		for k := range int64(n) {
			up.Fixes = append(up.Fixes, impl.Fix{Time: 5 * k, X: 20 * (k % 2), Y: 10 * k})
			down.Fixes = append(down.Fixes, impl.Fix{Time: 5 * k, X: 20 * (k % 2), Y: -10 * k})
			if 0 < k && k < int64(n)-1 {
				tacks, gybes = append(tacks, tack(k)), append(gybes, gybe(k))
			}
		}
		checkManoeuvres(t, impl.Wind{Y: -9}, up, tacks)
		checkManoeuvres(t, impl.Wind{Y: -9}, down, gybes)
		checkManoeuvres(t, impl.Wind{Y: 9}, down, tacks)
		checkManoeuvres(t, impl.Wind{Y: 9}, up, gybes)
	}
}

// expectedTackAt returns the tack at a time at which the track lasts, and the code.
func expectedTackAt(w impl.Wind, track impl.Track, time int64) (int64, int64) {
	h := vector(track, expectedLeg(track, time))
	if h == (impl.Point{}) {
		return 0, impl.ErrState
	}
	return expectedTack(w, h), impl.ErrNone
}

func checkTacks(t *testing.T, w impl.Wind, track impl.Track) {
	t.Helper()
	for _, time := range timesWithin(track) {
		want, wantCode := expectedTackAt(w, track, time)
		if n, code := impl.TackAt(w, track, time); code != wantCode || n != want {
			t.Fatalf("TackAt(%v, %v, %d) = %d, %d, want %d, %d", w, track, time, n, code, want, wantCode)
		}
	}
	for _, time := range timesOutside(track) {
		refuseTack(t, w, track, time, impl.ErrRange)
	}
}

func refuseTack(t *testing.T, w impl.Wind, track impl.Track, time, want int64) {
	t.Helper()
	if n, code := impl.TackAt(w, track, time); n != 0 || code != want {
		t.Fatalf("TackAt(%v, %v, %d) = %d, %d, want the code %d", w, track, time, n, code, want)
	}
}

// tacksAround returns what TackAt says before a fix and at it. The leg before the fix is told at
// its beginning, since it may last one millisecond only.
func tacksAround(t *testing.T, w impl.Wind, track impl.Track, fix int) (int64, int64, bool) {
	t.Helper()
	before, code := impl.TackAt(w, track, track.Fixes[fix-1].Time)
	after, afterCode := impl.TackAt(w, track, track.Fixes[fix].Time)
	for _, c := range []int64{code, afterCode} {
		if c != impl.ErrNone && c != impl.ErrState {
			t.Fatalf("TackAt of %v and %v around the fix %d: code %d", w, track, fix, c)
		}
	}
	return before, after, code == impl.ErrNone && afterCode == impl.ErrNone
}

// checkPromise checks that the tack changes at each manoeuvre, and from one tack to the other one
// only at these.
func checkPromise(t *testing.T, w impl.Wind, track impl.Track) int {
	t.Helper()
	list := manoeuvresOf(t, w, track)
	fixes := []int64{}
	for _, m := range list {
		if m.Kind != impl.TurnTack && m.Kind != impl.TurnGybe {
			t.Fatalf("ManoeuvresOf(%v, %v) has %v", w, track, m)
		}
		fixes = append(fixes, m.Fix)
	}
	for fix := 1; fix < len(track.Fixes)-1; fix++ {
		before, after, sailed := tacksAround(t, w, track, fix)
		changes := sailed && before != impl.TackNone && after == otherTack[before]
		if changes != slices.Contains(fixes, int64(fix)) {
			t.Fatalf("in the wind %v, the tack of %v at the fix %d is %d, then %d, but the manoeuvres are %v", w, track, fix, before, after, list)
		}
	}
	if !slices.IsSorted(fixes) || len(slices.Compact(fixes)) != len(list) {
		t.Fatalf("ManoeuvresOf(%v, %v) = %v is out of order", w, track, list)
	}
	return len(list)
}

// sailedTracks have legs without length and legs along the axes among others.
func sailedTracks() []impl.Track {
	return append(validTracks(), zigzag(9), zigzag(impl.MaxFixes), stay(impl.Point{X: 3}),
		sailingAlong(impl.Point{}, portUp, noLength, starboardUp, straightUp, portDown, portUp, starboardDown, noLength))
}

func TestManoeuvresChangeTheTack(t *testing.T) {
	found := 0
	for _, w := range validWinds() {
		for _, track := range sailedTracks() {
			found += checkPromise(t, w, track)
			checkManoeuvres(t, w, track, expectedManoeuvres(w, track))
		}
	}
	random := rand.New(rand.NewSource(24))
	for k := range 3000 {
		w, track := randomWind(random, []int64{2, 30, impl.MaxWind}[k%3]), randomTrack(random)
		found += checkPromise(t, w, track)
		checkManoeuvres(t, w, track, expectedManoeuvres(w, track))
	}
	if found < 10000 {
		t.Errorf("only %d manoeuvres", found)
	}
}

func TestFarManoeuvresOfRandomTracks(t *testing.T) {
	random := rand.New(rand.NewSource(25))
	kinds := map[int64]int{}
	for k := range 2000 {
		w, track := randomWind(random, []int64{2, impl.MaxWind}[k%2]), impl.Track{}
		for time := range int64(6) {
			p := randomPoint(random, impl.MaxCoord)
			track.Fixes = append(track.Fixes, impl.Fix{Time: time, X: p.X, Y: p.Y})
		}
		checkManoeuvres(t, w, track, expectedManoeuvres(w, track))
		for _, m := range manoeuvresOf(t, w, track) {
			kinds[m.Kind]++
		}
	}
	if kinds[impl.TurnTack] < 500 || kinds[impl.TurnGybe] < 500 {
		t.Errorf("kinds of manoeuvres: %v", kinds)
	}
}

// Only the vectors of the legs count.
func TestManoeuvresDoNotDependOnTimes(t *testing.T) {
	for _, w := range []impl.Wind{toSouth, {X: 3, Y: 4}, {X: -997, Y: 1000}} {
		for _, track := range sailedTracks() {
			list := manoeuvresOf(t, w, track)
			other := impl.Track{Fixes: slices.Clone(track.Fixes)}
			for k := range other.Fixes {
				other.Fixes[k].Time = int64(k * k * 9)
			}
			if again := manoeuvresOf(t, w, other); !slices.Equal(again, list) {
				t.Fatalf("ManoeuvresOf(%v, ..) = %v of %v, but %v of %v", w, list, track, again, other)
			}
		}
	}
}

func TestTackAt(t *testing.T) {
	// On port tack from 5 to 15, without length to 25, on starboard tack to 35, on no tack to 45.
	track := later(sailingAlong(impl.Point{}, portUp, noLength, starboardDown, straightUp), 5)
	for _, row := range []struct{ time, want, code int64 }{
		{4, 0, impl.ErrRange},
		{5, impl.TackPort, impl.ErrNone}, {6, impl.TackPort, impl.ErrNone}, {14, impl.TackPort, impl.ErrNone},
		{15, 0, impl.ErrState}, {16, 0, impl.ErrState}, {24, 0, impl.ErrState},
		{25, impl.TackStarboard, impl.ErrNone}, {30, impl.TackStarboard, impl.ErrNone}, {34, impl.TackStarboard, impl.ErrNone},
		{35, impl.TackNone, impl.ErrNone}, {44, impl.TackNone, impl.ErrNone}, {45, impl.TackNone, impl.ErrNone},
		{46, 0, impl.ErrRange},
	} {
		if n, code := impl.TackAt(impl.Wind{Y: -10}, track, row.time); code != row.code || n != row.want {
			t.Errorf("TackAt(.., %d) = %d, %d, want %d, %d", row.time, n, code, row.want, row.code)
		}
	}
	// At its end the last leg counts, on which the boat is on starboard tack.
	last := sailingAlong(impl.Point{}, portUp, starboardUp)
	for time, want := range map[int64]int64{0: impl.TackPort, 9: impl.TackPort, 10: impl.TackStarboard, 20: impl.TackStarboard} {
		if n, code := impl.TackAt(impl.Wind{Y: -10}, last, time); code != impl.ErrNone || n != want {
			t.Errorf("TackAt(.., %d) = %d, %d, want %d", time, n, code, want)
		}
	}
}

func TestTacksOfAllTracks(t *testing.T) {
	for k, w := range validWinds() {
		for n, track := range sailedTracks() {
			// A third of the pairs, to save time: each wind and each track is in many of them.
			if (k+n)%3 == 0 {
				checkTacks(t, w, track)
			}
		}
	}
	checkTacks(t, toSouth, trackOf(0, 0, 0, impl.MaxTime, 1, 1))
	checkTacks(t, toSouth, trackOf(impl.MaxTime-1, 0, 0, impl.MaxTime, -1, 1))
}

// The tack is that of the heading of the leg.
func TestTackAtIsTheTackOfTheHeading(t *testing.T) {
	for _, w := range []impl.Wind{toSouth, {X: 3, Y: 4}, {X: -997, Y: 1000}} {
		for _, track := range sailedTracks() {
			for _, time := range timesWithin(track) {
				h, headingCode := impl.HeadingAt(track, time)
				n, code := impl.TackAt(w, track, time)
				if code != headingCode || code == impl.ErrNone && n != tackOf(t, w, h) {
					t.Fatalf("TackAt(%v, %v, %d) = %d, %d, but the heading is %v, %d", w, track, time, n, code, h, headingCode)
				}
			}
		}
	}
}

// refuseSailed checks that both functions with a track return ErrInvalid, ahead of the codes for
// the time, and nothing beside it.
func refuseSailed(t *testing.T, w impl.Wind, track impl.Track) {
	t.Helper()
	if list, code := impl.ManoeuvresOf(w, track); list != nil || code != impl.ErrInvalid {
		t.Fatalf("ManoeuvresOf(%v, %v) = %v, %d, want ErrInvalid", w, track, list, code)
	}
	for _, time := range append([]int64{-1, 0, 10, 12, 15, 20, 21, impl.MaxTime, impl.MaxTime + 1}, extremes...) {
		refuseTack(t, w, track, time, impl.ErrInvalid)
	}
}

func TestInvalidWindsAndTracks(t *testing.T) {
	good := sailingAlong(impl.Point{}, portUp, starboardUp, noLength)
	for _, bad := range invalidWinds() {
		for _, track := range []impl.Track{good, stay(impl.Point{}), windingTrack(impl.MaxFixes, 0), {}, windingTrack(impl.MaxFixes+1, 0)} {
			refuseSailed(t, bad, track)
		}
	}
	for _, bad := range invalidTracks() {
		for _, w := range []impl.Wind{toSouth, {X: impl.MaxWind, Y: -impl.MaxWind}, {}} {
			refuseSailed(t, w, bad)
		}
	}
}

// ErrRange comes ahead of ErrState.
func TestTacksWithoutLength(t *testing.T) {
	still := stay(impl.Point{X: 5, Y: -6})
	for time, want := range map[int64]int64{9: impl.ErrRange, 10: impl.ErrState, 15: impl.ErrState, 20: impl.ErrState, 21: impl.ErrRange, -1: impl.ErrRange, extremes[0]: impl.ErrRange, extremes[3]: impl.ErrRange} {
		for _, w := range validWinds() {
			refuseTack(t, w, still, time, want)
		}
		refuseTack(t, impl.Wind{}, still, time, impl.ErrInvalid)
	}
}

func TestWindFunctionsKeepTheirArguments(t *testing.T) {
	for _, w := range []impl.Wind{toSouth, {X: -3, Y: 4}, {}} {
		for _, track := range append(sailedTracks(), trackOf(5, 0, 0, 5, 1, 1)) {
			roomy, memory := roomyTrack(track)
			before := slices.Clone(memory)
			impl.ManoeuvresOf(w, roomy)
			for _, time := range []int64{-1, firstTime(track), lastTime(track), 12} {
				impl.TackAt(w, roomy, time)
			}
			if !slices.Equal(memory, before) {
				t.Fatalf("the track %v is modified", track)
			}
		}
		for n := range impl.MaxBoats + 2 {
			positions := []impl.Point{}
			for k := range int64(2 * impl.MaxBoats) {
				positions = append(positions, impl.Point{X: k * 7 % 11, Y: -k})
			}
			before := slices.Clone(positions)
			impl.WindwardBoat(w, positions[:n])
			if !slices.Equal(positions, before) {
				t.Fatalf("the positions %v are modified", before[:n])
			}
		}
	}
}

// Results that share memory with one another would change here.
func TestManoeuvresAreNew(t *testing.T) {
	track := sailingAlong(impl.Point{}, portUp, starboardUp, portUp, portDown, starboardDown)
	want := []impl.Manoeuvre{tack(1), tack(2), gybe(4)}
	for range 3 {
		list, again := manoeuvresOf(t, toSouth, track), manoeuvresOf(t, toSouth, track)
		clear(list[:cap(list)])
		if !slices.Equal(again, want) {
			t.Fatalf("the manoeuvres have changed to %v", again)
		}
		checkManoeuvres(t, toSouth, track, want)
	}
}
