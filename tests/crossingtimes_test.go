package tests

import (
	"math/big"
	"slices"
	"testing"

	"loop.example/g00887/impl"
)

// expectedFirst returns the first crossing with a Way from a time on, or none.
func expectedFirst(list []impl.Crossing, way, from int64) (impl.Crossing, bool) {
	k := slices.IndexFunc(list, func(c impl.Crossing) bool { return c.Way == way && c.Time >= from })
	if k < 0 {
		return impl.Crossing{}, false
	}
	return list[k], true
}

func checkFirst(t *testing.T, track impl.Track, l impl.Line, way, from int64, list []impl.Crossing) {
	t.Helper()
	c, code := impl.FirstCrossing(track, l, way, from)
	want, found := expectedFirst(list, way, from)
	if !found && code != impl.ErrNotFound || found && code != impl.ErrNone || c != want {
		t.Fatalf("FirstCrossing(%v, %v, %d, %d) = %v, %d, want %v", track, l, way, from, c, code, want)
	}
}

func TestFirstCrossing(t *testing.T) {
	l := line(-5, 0, 5, 0)
	half, third := impl.Ratio{Num: 1, Den: 2}, impl.Ratio{Num: 1, Den: 3}
	// Forward at 10/3, backward at 15, forward at 25, and backward at 100/3.
	track := trackOf(0, 0, -1, 10, 0, 2, 20, 0, -2, 30, 0, 2, 40, 0, -4)
	first, second := impl.Crossing{Time: 4, Leg: 0, Way: 1, Place: third}, impl.Crossing{Time: 15, Leg: 1, Way: -1, Place: half}
	thirdOne, last := impl.Crossing{Time: 25, Leg: 2, Way: 1, Place: half}, impl.Crossing{Time: 34, Leg: 3, Way: -1, Place: third}
	for _, c := range []struct {
		way, from int64
		want      impl.Crossing
		code      int64
	}{
		{1, 0, first, impl.ErrNone}, {1, 3, first, impl.ErrNone}, {1, 4, first, impl.ErrNone}, {1, 5, thirdOne, impl.ErrNone},
		{1, 25, thirdOne, impl.ErrNone}, {1, 26, impl.Crossing{}, impl.ErrNotFound}, {1, 40, impl.Crossing{}, impl.ErrNotFound},
		{-1, 0, second, impl.ErrNone}, {-1, 15, second, impl.ErrNone}, {-1, 16, last, impl.ErrNone}, {-1, 34, last, impl.ErrNone}, {-1, 35, impl.Crossing{}, impl.ErrNotFound},
		{1, -1, first, impl.ErrNone}, {-1, -1, second, impl.ErrNone}, {1, extremes[0], first, impl.ErrNone}, {-1, extremes[0], second, impl.ErrNone},
		{1, impl.MaxTime, impl.Crossing{}, impl.ErrNotFound}, {-1, impl.MaxTime + 1, impl.Crossing{}, impl.ErrNotFound}, {1, extremes[3], impl.Crossing{}, impl.ErrNotFound},
	} {
		if x, code := impl.FirstCrossing(track, l, c.way, c.from); code != c.code || x != c.want {
			t.Errorf("FirstCrossing(%v, %v, %d, %d) = %v, %d, want %v, %d", track, l, c.way, c.from, x, code, c.want, c.code)
		}
	}
}

// At the touch of a line from behind, both crossings have one time.
func TestFirstCrossingAtATouch(t *testing.T) {
	l := line(-5, 0, 5, 0)
	track := trackOf(0, 0, 1, 10, 0, 0, 20, 0, 1)
	for _, from := range []int64{0, 9, 10} {
		if c, code := impl.FirstCrossing(track, l, 1, from); code != impl.ErrNone || c != (impl.Crossing{Time: 10, Leg: 1, Way: 1, Place: impl.Ratio{Num: 0, Den: 1}}) {
			t.Errorf("forward from %d on: %v, %d", from, c, code)
		}
		if c, code := impl.FirstCrossing(track, l, -1, from); code != impl.ErrNone || c != (impl.Crossing{Time: 10, Leg: 0, Way: -1, Place: impl.Ratio{Num: 1, Den: 1}}) {
			t.Errorf("backward from %d on: %v, %d", from, c, code)
		}
	}
	for _, way := range []int64{1, -1} {
		if c, code := impl.FirstCrossing(track, l, way, 11); code != impl.ErrNotFound || c != (impl.Crossing{}) {
			t.Errorf("from 11 on: %v, %d", c, code)
		}
	}
}

func TestFirstCrossingOfAllTracks(t *testing.T) {
	for _, track := range append(validTracks(), zigzag(impl.MaxFixes)) {
		for _, l := range linesAbout(track) {
			list := expectedCrossings(track, l)
			times := append([]int64{-1, 0, firstTime(track), lastTime(track), lastTime(track) + 1, impl.MaxTime, impl.MaxTime + 1}, extremes...)
			for _, c := range list {
				times = append(times, c.Time-1, c.Time, c.Time+1)
			}
			for _, from := range times {
				checkFirst(t, track, l, 1, from, list)
				checkFirst(t, track, l, -1, from, list)
			}
		}
	}
}

var badWays = append([]int64{0, 2, -2, 3, 1 + 1<<32, 1<<32 - 1}, extremes...)

func TestFirstCrossingWithOtherWays(t *testing.T) {
	for _, track := range []impl.Track{trackOf(0, 0, -1, 10, 0, 2, 20, 0, -2), trackOf(0, 0, 1, 10, 0, 2), zigzag(impl.MaxFixes)} {
		for _, way := range badWays {
			for _, from := range append([]int64{-1, 0, 5, impl.MaxTime + 1}, extremes...) {
				if c, code := impl.FirstCrossing(track, line(-5, 0, 5, 0), way, from); code != impl.ErrRange || c != (impl.Crossing{}) {
					t.Fatalf("FirstCrossing(%v, .., %d, %d) = %v, %d, want ErrRange", track, way, from, c, code)
				}
			}
		}
	}
}

func TestSideAt(t *testing.T) {
	l := line(-5, 0, 5, 0)
	// It crosses forward at 5 and backward at 15; the position at 16 is {0, -2}.
	track := trackOf(0, 0, -10, 10, 0, 10, 20, 0, -10)
	for time, want := range map[int64]int64{0: -1, 4: -1, 5: 0, 6: 1, 10: 1, 14: 1, 15: 0, 16: -1, 20: -1} {
		if side, code := impl.SideAt(track, l, time); code != impl.ErrNone || side != want {
			t.Errorf("SideAt(%v, %v, %d) = %d, %d, want %d", track, l, time, side, code, want)
		}
	}
	// The positions are rounded down, to a point on the line, or to one before it.
	slow := trackOf(0, 9, -1, 10, 9, 1)
	for time, want := range map[int64]int64{0: -1, 1: -1, 4: -1, 5: 0, 6: 0, 9: 0, 10: 1} {
		if side, code := impl.SideAt(slow, l, time); code != impl.ErrNone || side != want {
			t.Errorf("SideAt(%v, %v, %d) = %d, %d, want %d", slow, l, time, side, code, want)
		}
	}
	for _, track := range validTracks() {
		for k, l := range linesAbout(track) {
			if k%4 > 0 {
				continue
			}
			for _, time := range timesWithin(track) {
				want := int64(bigWay(l.A, l.B).cross(bigWay(l.A, expectedPosition(track, time))).Sign())
				if side, code := impl.SideAt(track, l, time); code != impl.ErrNone || side != want {
					t.Fatalf("SideAt(%v, %v, %d) = %d, %d, want %d", track, l, time, side, code, want)
				}
			}
		}
		for _, time := range timesOutside(track) {
			if side, code := impl.SideAt(track, l, time); code != impl.ErrRange || side != 0 {
				t.Fatalf("SideAt(%v, %v, %d) = %d, %d, want ErrRange", track, l, time, side, code)
			}
		}
	}
}

// instant is a crossing on a track, which need not cross any line, and its exact time.
type instant struct {
	track impl.Track
	c     impl.Crossing
	exact *big.Rat
}

func instantAt(track impl.Track, leg int, place impl.Ratio) instant {
	return instant{track, impl.Crossing{Leg: int64(leg), Place: place}, expectedMoment(track, leg, ratOf(place))}
}

func compareInstants(t *testing.T, a, b instant) int64 {
	t.Helper()
	n, code := impl.CompareCrossings(a.track, a.c, b.track, b.c)
	if code != impl.ErrNone {
		t.Fatalf("CompareCrossings(%v, %v, %v, %v): code %d", a.track, a.c, b.track, b.c, code)
	}
	return n
}

func checkInstants(t *testing.T, a, b instant) {
	t.Helper()
	if n, want := compareInstants(t, a, b), int64(a.exact.Cmp(b.exact)); n != want {
		t.Fatalf("CompareCrossings(%v, %v, %v, %v) = %d, want %d", a.track, a.c, b.track, b.c, n, want)
	}
}

func TestCompareCrossings(t *testing.T) {
	const end = impl.MaxTime
	ten, eleven := trackOf(0, 0, -1, 10, 0, 2, 20, 0, 5), trackOf(0, 0, -1, 11, 0, 2)
	late, twenty := trackOf(5, 0, 0, 10, 1, 1), trackOf(0, 0, 0, 20, 1, 1)
	one, long, split := trackOf(0, 0, 0, 1, 0, 0), trackOf(0, 0, 0, end, 0, 0), trackOf(0, 0, 0, end/2, 0, 0, end, 0, 0)
	at := func(track impl.Track, leg int, num, den int64) instant {
		return instantAt(track, leg, impl.Ratio{Num: num, Den: den})
	}
	for _, c := range []struct {
		name string
		a, b instant
		want int64
	}{
		{"in one millisecond", at(ten, 0, 1, 3), at(eleven, 0, 1, 3), -1},
		{"one crossing", at(ten, 0, 1, 3), at(ten, 0, 1, 3), 0},
		{"not in lowest terms", at(ten, 0, 1, 3), at(ten, 0, 2, 6), 0},
		{"half of ten, a quarter of twenty", at(ten, 0, 1, 2), at(twenty, 0, 1, 4), 0},
		{"half of ten, the beginning at five", at(ten, 0, 1, 2), at(late, 0, 0, 1), 0},
		{"half of ten, just behind the beginning at five", at(ten, 0, 1, 2), at(late, 0, 1, maxDen), -1},
		{"end of a leg and beginning of the next one", at(ten, 0, 1, 1), at(ten, 1, 0, 1), 0},
		{"end of a leg, written otherwise", at(ten, 0, maxDen, maxDen), at(ten, 1, 0, maxDen), 0},
		{"just before the end of a leg", at(ten, 0, maxDen-1, maxDen), at(ten, 1, 0, 1), -1},
		{"just after the beginning of a leg", at(ten, 1, 1, maxDen), at(ten, 0, 1, 1), 1},
		{"later leg with a smaller place", at(ten, 1, 1, 100), at(ten, 0, 99, 100), 1},
		{"earlier place of a longer leg", at(twenty, 0, 2, 5), at(ten, 0, 3, 5), 1},
		{"smallest places", at(one, 0, 1, maxDen), at(one, 0, 1, maxDen-1), -1},
		{"smallest difference", at(one, 0, maxDen-2, maxDen-1), at(one, 0, maxDen-1, maxDen), -1},
		{"smallest difference of a long leg", at(long, 0, maxDen-2, maxDen-1), at(long, 0, maxDen-1, maxDen), -1},
		{"zero and the smallest place", at(one, 0, 0, 1), at(one, 0, 1, maxDen), -1},
		{"middle of a long leg and its fix", at(long, 0, maxDen/2, maxDen), at(split, 1, 0, maxDen), 0},
		{"middle of a long leg and the end before it", at(long, 0, 1, 2), at(split, 0, maxDen, maxDen), 0},
		{"just after the middle of a long leg", at(long, 0, maxDen/2+1, maxDen), at(split, 1, 0, 1), 1},
		{"just before the middle of a long leg", at(long, 0, maxDen/2-1, maxDen), at(split, 0, 1, 1), -1},
		{"ends of all", at(long, 0, 1, 1), at(split, 1, maxDen, maxDen), 0},
		{"thirds of a long leg", at(long, 0, 1, 3), at(split, 0, 2, 3), 0},
		{"nearly a third of a long leg", at(long, 0, 33333333333333, maxDen), at(split, 0, 2, 3), -1},
	} {
		t.Run(c.name, func(t *testing.T) {
			if n := compareInstants(t, c.a, c.b); n != c.want {
				t.Errorf("CompareCrossings(%v, %v, %v, %v) = %d, want %d", c.a.track, c.a.c, c.b.track, c.b.c, n, c.want)
			}
			checkInstants(t, c.a, c.b)
			checkInstants(t, c.b, c.a)
		})
	}
}

// manyInstants have equal exact times, some that differ by less than a millisecond, and products of
// Num and the duration, and of Num and Den, that do not fit into 64 bits.
func manyInstants() []instant {
	const end = impl.MaxTime
	tracks := []impl.Track{
		trackOf(0, 0, -1, 10, 0, 2, 20, 0, 5), trackOf(0, 0, -1, 11, 0, 2), trackOf(0, 5, 5, 1, 6, 6, 2, 6, 6),
		trackOf(0, 0, 0, end, 1, 1), trackOf(0, 0, 0, end/2, 1, 1, end, 7, 7), trackOf(end-1, 0, 0, end, 1, 1), trackOf(1, 0, 0, 999999938, 1, 1, end, 1, 0),
	}
	places := []impl.Ratio{{Num: 0, Den: 1}, {Num: 1, Den: 1}, {Num: 1, Den: 2}, {Num: 2, Den: 4}, {Num: 1, Den: 3}, {Num: 2, Den: 3}, {Num: 3, Den: 7}}
	for _, den := range []int64{3999999, 999999937, 7999996000001, maxDen / 2, maxDen - 1, maxDen} {
		for _, num := range []int64{0, 1, den / 3, den / 2, den/2 + 1, den - 1, den} {
			places = append(places, impl.Ratio{Num: num, Den: den})
		}
	}
	instants := []instant{}
	for _, track := range tracks {
		for leg := range len(track.Fixes) - 1 {
			for _, place := range places {
				instants = append(instants, instantAt(track, leg, place))
			}
		}
	}
	return instants
}

func TestExactTimesAreComparedWithoutRounding(t *testing.T) {
	instants := manyInstants()
	for _, a := range instants {
		for _, b := range instants {
			checkInstants(t, a, b)
		}
	}
}

func TestCrossingsOfOneTrackAreInOrder(t *testing.T) {
	for _, track := range append(validTracks(), zigzag(impl.MaxFixes)) {
		for _, l := range linesAbout(track) {
			list := crossingsOf(t, track, l)
			for k, a := range list {
				for j, b := range list {
					n, code := impl.CompareCrossings(track, a, track, b)
					touch := k != j && a.Time == b.Time && expectedMoment(track, int(a.Leg), ratOf(a.Place)).Cmp(expectedMoment(track, int(b.Leg), ratOf(b.Place))) == 0
					if code != impl.ErrNone || n < -1 || n > 1 || (n == 0) != (k == j || touch) || n < 0 && k > j || n > 0 && k < j {
						t.Fatalf("CompareCrossings(%v, %v, .., %v) = %d, %d", track, a, b, n, code)
					}
				}
			}
		}
	}
}

func TestOnlyLegAndPlaceAreCompared(t *testing.T) {
	a, b := trackOf(0, 0, -1, 10, 0, 2, 20, 0, -2), trackOf(0, 0, -1, 11, 0, 2)
	for _, time := range append([]int64{-1, 0, 4, 5, impl.MaxTime + 1}, extremes...) {
		for _, way := range append([]int64{-1, 0, 1, 2}, extremes...) {
			third := impl.Ratio{Num: 1, Den: 3}
			x, y := impl.Crossing{Time: time, Way: way, Place: third}, impl.Crossing{Time: 4, Way: 1, Place: third}
			if n, code := impl.CompareCrossings(a, x, b, y); code != impl.ErrNone || n != -1 {
				t.Fatalf("CompareCrossings(%v, %v, %v, %v) = %d, %d, want -1", a, x, b, y, n, code)
			}
			if n, code := impl.CompareCrossings(b, y, a, x); code != impl.ErrNone || n != 1 {
				t.Fatalf("CompareCrossings(%v, %v, %v, %v) = %d, %d, want 1", b, y, a, x, n, code)
			}
		}
	}
}

func badPlaces() []impl.Ratio {
	places := []impl.Ratio{{}}
	for _, den := range badDens() {
		for _, num := range []int64{-1, 0, 1, den} {
			places = append(places, impl.Ratio{Num: num, Den: den})
		}
	}
	for _, den := range []int64{1, 2, maxDen - 1, maxDen} {
		for _, num := range append([]int64{-1, -den, den + 1}, extremes...) {
			places = append(places, impl.Ratio{Num: num, Den: den})
		}
	}
	return places
}

func TestCompareCrossingsErrors(t *testing.T) {
	refuse := func(a impl.Track, x impl.Crossing, b impl.Track, y impl.Crossing, want int64) {
		t.Helper()
		if n, code := impl.CompareCrossings(a, x, b, y); n != 0 || code != want {
			t.Fatalf("CompareCrossings(%v, %v, %v, %v) = %d, %d, want the code %d", a, x, b, y, n, code, want)
		}
	}
	three, two := trackOf(0, 0, -1, 10, 0, 2, 20, 0, -2), trackOf(5, 1, 1, 9, 2, 2)
	half := impl.Ratio{Num: 1, Den: 2}
	good := impl.Crossing{Place: half}
	bad := []impl.Crossing{{}}
	for _, leg := range append([]int64{-1, 2, 3, impl.MaxFixes, 1 << 32}, extremes...) {
		bad = append(bad, impl.Crossing{Leg: leg, Place: half})
	}
	for _, place := range badPlaces() {
		bad = append(bad, impl.Crossing{Time: 3, Leg: 0, Way: 1, Place: place}, impl.Crossing{Leg: 1, Place: place})
	}
	for _, x := range bad {
		refuse(three, x, three, good, impl.ErrRange)
		refuse(three, good, three, x, impl.ErrRange)
		refuse(three, x, three, x, impl.ErrRange)
	}
	// The leg 1 is one of the first track only.
	second := impl.Crossing{Leg: 1, Place: half}
	refuse(two, second, three, good, impl.ErrRange)
	refuse(three, good, two, second, impl.ErrRange)
	if n, code := impl.CompareCrossings(three, second, two, good); n != 1 || code != impl.ErrNone {
		t.Errorf("the legs 1 and 0: %d, %d", n, code)
	}
	for _, invalid := range invalidTracks() {
		for _, x := range append(bad[:12:12], good) {
			refuse(invalid, x, three, good, impl.ErrInvalid)
			refuse(three, x, invalid, good, impl.ErrInvalid)
			refuse(three, good, invalid, x, impl.ErrInvalid)
			refuse(invalid, x, invalid, x, impl.ErrInvalid)
		}
	}
}
