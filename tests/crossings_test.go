package tests

import (
	"math/big"
	"slices"
	"testing"

	"loop.example/g00887/impl"
)

func pointOf(fix impl.Fix) impl.Point { return impl.Point{X: fix.X, Y: fix.Y} }

func isBehind(l impl.Line, p impl.Point) bool {
	return bigWay(l.A, l.B).cross(bigWay(l.A, p)).Sign() > 0
}

// expectedWay looks for a common point of the way and the line, where the program compares sides.
func expectedWay(l impl.Line, p, q impl.Point) int64 {
	if isBehind(l, p) == isBehind(l, q) || !solvePair(impl.Segment{A: p, B: q}, impl.Segment(l)).meet {
		return 0
	}
	if isBehind(l, q) {
		return 1
	}
	return -1
}

// expectedMoment returns the exact time at a place on a leg.
func expectedMoment(track impl.Track, leg int, place *big.Rat) *big.Rat {
	begin, end := track.Fixes[leg].Time, track.Fixes[leg+1].Time
	part := new(big.Rat).Mul(place, big.NewRat(end-begin, 1))
	return part.Add(part, big.NewRat(begin, 1))
}

// upwards rounds a time that is not negative up.
func upwards(x *big.Rat) int64 {
	n, rest := new(big.Int).DivMod(x.Num(), x.Denom(), new(big.Int))
	return n.Int64() + int64(rest.Sign())
}

func expectedCrossings(track impl.Track, l impl.Line) []impl.Crossing {
	list := []impl.Crossing{}
	for k := range len(track.Fixes) - 1 {
		p, q := pointOf(track.Fixes[k]), pointOf(track.Fixes[k+1])
		way := expectedWay(l, p, q)
		if way == 0 {
			continue
		}
		place := solvePair(impl.Segment{A: p, B: q}, impl.Segment(l)).place
		list = append(list, impl.Crossing{
			Time:  upwards(expectedMoment(track, k, place)),
			Leg:   int64(k),
			Way:   way,
			Place: impl.Ratio{Num: place.Num().Int64(), Den: place.Denom().Int64()},
		})
	}
	return list
}

// linesAbout are lines along the legs of a track, through its fixes, beside them and far away.
func linesAbout(track impl.Track) []impl.Line {
	const m = impl.MaxCoord
	lines := []impl.Line{
		line(-60, 0, 60, 0), line(0, 60, 0, -60), line(-50, -50, 50, 50), line(30, -40, -3, 7), line(-1, 0, 1, 0), line(0, 1, 1, 1),
		line(-m, 0, m, 0), line(m, m, -m, -m), line(-m, m-1, m, -m), line(m, m-1, -m, m), line(-m, -m, -m, m), line(m, m, m-1, m),
	}
	n := len(track.Fixes)
	for k, f := range track.Fixes {
		g, h := track.Fixes[(k+1)%n], track.Fixes[(k+5)%n]
		lines = append(lines,
			line(f.X, f.Y, g.X, g.Y), line(h.X, h.Y, f.X, f.Y), line(f.X, f.Y, f.X+3, f.Y-7),
			line(f.X-2, f.Y-1, f.X+2, f.Y+1), line(f.X+9, f.Y+9, f.X+1, f.Y+1))
	}
	return slices.DeleteFunc(lines, func(l impl.Line) bool { return !impl.IsLine(l) })
}

// wayAcross checks the way back as well.
func wayAcross(t *testing.T, l impl.Line, p, q impl.Point) int64 {
	t.Helper()
	way, code := impl.WayAcross(l, p, q)
	if code != impl.ErrNone {
		t.Fatalf("WayAcross(%v, %v, %v): code %d", l, p, q, code)
	}
	if back, code := impl.WayAcross(l, q, p); code != impl.ErrNone || back != -way {
		t.Fatalf("WayAcross(%v, %v, %v) = %d, but the way back is %d, %d", l, p, q, way, back, code)
	}
	return way
}

func crossingsOf(t *testing.T, track impl.Track, l impl.Line) []impl.Crossing {
	t.Helper()
	list, code := impl.CrossingsOf(track, l)
	if code != impl.ErrNone {
		t.Fatalf("CrossingsOf(%v, %v): code %d", track, l, code)
	}
	return list
}

func TestWayAcross(t *testing.T) {
	l := line(-5, 0, 5, 0)
	for _, c := range []struct {
		name string
		way  impl.Segment
		want int64
	}{
		{"through the middle", segment(0, -1, 0, 1), 1}, {"oblique", segment(-30, -40, 33, 44), 1}, {"long", segment(1, -1000000, -1, 1000000), 1},
		{"from the line", segment(2, 0, 3, 1), 1}, {"from the middle", segment(0, 0, 0, 1), 1},
		{"from the line to before it", segment(2, 0, 3, -1), 0}, {"along the line", segment(-2, 0, 3, 0), 0},
		{"the whole line", segment(-5, 0, 5, 0), 0}, {"along the line and both extensions", segment(-9, 0, 9, 0), 0}, {"along an extension", segment(6, 0, 9, 0), 0},
		{"through A", segment(-5, -1, -5, 1), 1}, {"through B", segment(5, -1, 5, 1), 1},
		{"through A, oblique", segment(-6, -1, -4, 1), 1}, {"through B, oblique", segment(7, -2, 4, 1), 1},
		{"from A", segment(-5, 0, -5, 1), 1}, {"from B to beside the line", segment(5, 0, 900, 1), 1}, {"from B to before the line", segment(5, 0, 5, -1), 0},
		{"left of A", segment(-6, -1, -6, 1), 0}, {"right of B", segment(6, -1, 6, 1), 0},
		{"just beside A", segment(-6, -1, -5, 1), 0}, {"just beside B", segment(5, -1, 6, 1), 0}, {"just inside", segment(4, -1, 5, 1), 1},
		{"from an extension", segment(6, 0, 6, 1), 0}, {"from an extension to behind the line", segment(6, 0, 0, 1), 0}, {"from the left extension", segment(-6, 0, -5, 1), 0},
		{"only before", segment(-3, -1, 3, -2), 0}, {"only behind", segment(-3, 1, 3, 2), 0}, {"parallel", segment(-5, 1, 5, 1), 0},
		{"from a point before to itself", segment(1, -1, 1, -1), 0}, {"behind to itself", segment(1, 1, 1, 1), 0}, {"on the line to itself", segment(1, 0, 1, 0), 0},
		{"A to itself", segment(-5, 0, -5, 0), 0}, {"on an extension to itself", segment(8, 0, 8, 0), 0},
	} {
		t.Run(c.name, func(t *testing.T) {
			if way := wayAcross(t, l, c.way.A, c.way.B); way != c.want {
				t.Errorf("WayAcross(%v, %v, %v) = %d, want %d", l, c.way.A, c.way.B, way, c.want)
			}
		})
	}
}

// The points on a line are before it, and before it with its ends exchanged too.
func TestWayAcrossALineWithItsEndsExchanged(t *testing.T) {
	l := line(5, 0, -5, 0)
	for _, c := range []struct {
		way  impl.Segment
		want int64
	}{
		{segment(0, -1, 0, 1), -1}, {segment(0, 1, 0, -1), 1},
		{segment(0, 0, 0, 1), 0}, {segment(0, 0, 0, -1), 1}, {segment(0, -1, 0, 0), -1}, {segment(5, -1, 5, 0), -1}, {segment(6, -1, 6, 0), 0},
	} {
		if way := wayAcross(t, l, c.way.A, c.way.B); way != c.want {
			t.Errorf("WayAcross(%v, %v, %v) = %d, want %d", l, c.way.A, c.way.B, way, c.want)
		}
	}
}

func checkWay(t *testing.T, l impl.Line, p, q impl.Point) {
	t.Helper()
	if way, want := wayAcross(t, l, p, q), expectedWay(l, p, q); way != want {
		t.Fatalf("WayAcross(%v, %v, %v) = %d, want %d", l, p, q, way, want)
	}
}

func TestWaysAcrossTheLinesOfAGrid(t *testing.T) {
	for _, s := range gridSegments() {
		for _, way := range gridSegments() {
			checkWay(t, impl.Line(s), way.A, way.B)
		}
	}
	for _, l := range []impl.Line{line(-1, 0, 1, 0), line(0, 1, 0, -1), line(-1, -1, 2, 2), line(2, -1, -1, 1), line(0, 0, 1, 3)} {
		for _, p := range gridPoints() {
			for _, q := range gridPoints() {
				checkWay(t, l, p, q)
			}
		}
	}
}

func TestWaysAcrossAtTheGreatestCoordinates(t *testing.T) {
	for _, s := range farSegments() {
		for _, way := range farSegments() {
			checkWay(t, impl.Line(s), way.A, way.B)
		}
	}
	const m = impl.MaxCoord
	for _, c := range []struct {
		l    impl.Line
		way  impl.Segment
		want int64
	}{
		{line(-m, 0, m, 0), segment(m, -m, m, m), 1}, {line(-m, 0, m-1, 0), segment(m, -m, m, m), 0}, {line(-m, 0, m-1, 0), segment(m, -m, m-1, m), 0},
		{line(-m, -m, m, m), segment(m, -m, -m, m), 1}, {line(-m, -m, m, m), segment(m, m-1, m-1, m), 1}, {line(-m, -m, m, m), segment(m, m, m-1, m), 1},
		{line(-m, -m, m, m-1), segment(0, -1, 0, 0), 1}, {line(-m, -m, m, m-1), segment(1, 0, -1, -1), 1}, {line(-m, -m, 0, 0), segment(m, m-1, m-1, m), 0},
	} {
		if way := wayAcross(t, c.l, c.way.A, c.way.B); way != c.want {
			t.Errorf("WayAcross(%v, %v, %v) = %d, want %d", c.l, c.way.A, c.way.B, way, c.want)
		}
	}
}

func TestCrossingsOf(t *testing.T) {
	l := line(-5, 0, 5, 0)
	zero, whole := impl.Ratio{Num: 0, Den: 1}, impl.Ratio{Num: 1, Den: 1}
	half, third := impl.Ratio{Num: 1, Den: 2}, impl.Ratio{Num: 1, Den: 3}
	for _, c := range []struct {
		name  string
		track impl.Track
		want  []impl.Crossing
	}{
		{"there and back", trackOf(0, 0, -1, 10, 0, 2, 20, 0, -2), []impl.Crossing{{Time: 4, Leg: 0, Way: 1, Place: third}, {Time: 15, Leg: 1, Way: -1, Place: half}}},
		{"back and there", trackOf(7, 0, 3, 10, 0, -3, 23, 0, 3), []impl.Crossing{{Time: 9, Leg: 0, Way: -1, Place: half}, {Time: 17, Leg: 1, Way: 1, Place: half}}},
		{"before the line", trackOf(0, 0, -1, 10, 3, -2, 20, -4, -1), nil},
		{"behind the line", trackOf(0, 0, 1, 10, 3, 2, 20, -4, 1), nil},
		{"to the line and back", trackOf(0, 0, -1, 10, 0, 0, 20, 0, -1), nil},
		{"to the line and on", trackOf(0, 0, -1, 10, 0, 0, 20, 0, 1), []impl.Crossing{{Time: 10, Leg: 1, Way: 1, Place: zero}}},
		{"back to the line and on", trackOf(0, 0, 1, 10, 0, 0, 20, 0, -1), []impl.Crossing{{Time: 10, Leg: 0, Way: -1, Place: whole}}},
		{"from behind to the line and back", trackOf(0, 0, 1, 10, 0, 0, 20, 0, 1), []impl.Crossing{{Time: 10, Leg: 0, Way: -1, Place: whole}, {Time: 10, Leg: 1, Way: 1, Place: zero}}},
		{"a stop on the line", trackOf(0, 0, -1, 10, 0, 0, 20, 0, 0, 30, 0, 1), []impl.Crossing{{Time: 20, Leg: 2, Way: 1, Place: zero}}},
		{"along the line", trackOf(0, -2, 0, 10, 3, 0), nil},
		{"along the line and away", trackOf(0, 0, 1, 10, -2, 0, 20, 3, 0, 30, 3, 1), []impl.Crossing{{Time: 10, Leg: 0, Way: -1, Place: whole}, {Time: 20, Leg: 2, Way: 1, Place: zero}}},
		{"along the line to an extension and away", trackOf(0, 0, -1, 10, 0, 0, 20, 6, 0, 30, 6, 1), nil},
		{"behind over an extension, back over the line", trackOf(0, 6, -1, 10, 6, 1, 20, 0, 1, 30, 0, -1), []impl.Crossing{{Time: 25, Leg: 2, Way: -1, Place: half}}},
		{"through the ends", trackOf(0, -5, -1, 3, -5, 1, 6, 5, 1, 9, 5, -1), []impl.Crossing{{Time: 2, Leg: 0, Way: 1, Place: half}, {Time: 8, Leg: 2, Way: -1, Place: half}}},
		{"beside the ends", trackOf(0, -6, -1, 3, -6, 1, 6, 6, 1, 9, 6, -1), nil},
		{"a stop behind the line", trackOf(0, 1, -1, 2, 1, 1, 5, 1, 1, 9, 1, 2), []impl.Crossing{{Time: 1, Leg: 0, Way: 1, Place: half}}},
		{"two points on the line", trackOf(5, 3, 0, 9, 3, 0), nil},
		{"oblique", trackOf(100, -4, -6, 121, 8, 12), []impl.Crossing{{Time: 107, Leg: 0, Way: 1, Place: third}}},
	} {
		t.Run(c.name, func(t *testing.T) {
			if list := crossingsOf(t, c.track, l); !slices.Equal(list, c.want) {
				t.Errorf("CrossingsOf(%v, %v) = %v, want %v", c.track, l, list, c.want)
			}
			if list := expectedCrossings(c.track, l); !slices.Equal(list, c.want) {
				t.Errorf("the tests expect %v of %v, not %v", list, c.track, c.want)
			}
		})
	}
}

// zigzag has n fixes, alternately before and behind the line from {-5, 0} to {5, 0}.
func zigzag(n int) impl.Track {
	track := impl.Track{}
	for k := range int64(n) {
		track.Fixes = append(track.Fixes, impl.Fix{Time: 7 * k, X: k%3 - 1, Y: (k%2*2 - 1) * (k + 1)})
	}
	return track
}

func TestEveryLegMayCross(t *testing.T) {
	l := line(-5, 0, 5, 0)
	for n := 2; n <= impl.MaxFixes; n++ {
		track := zigzag(n)
		list := crossingsOf(t, track, l)
		if len(list) != n-1 || !slices.Equal(list, expectedCrossings(track, l)) {
			t.Fatalf("CrossingsOf(%v, %v) = %v", track, l, list)
		}
		forward, backward, code := impl.CountCrossings(track, l)
		if code != impl.ErrNone || forward != int64(n/2) || backward != int64((n-1)/2) {
			t.Fatalf("CountCrossings(%v, %v) = %d, %d, %d", track, l, forward, backward, code)
		}
	}
}

func TestCrossingsOfAllTracks(t *testing.T) {
	for _, track := range validTracks() {
		for _, l := range linesAbout(track) {
			if list, want := crossingsOf(t, track, l), expectedCrossings(track, l); !slices.Equal(list, want) {
				t.Fatalf("CrossingsOf(%v, %v) = %v, want %v", track, l, list, want)
			}
		}
	}
}

// Num times the duration of the leg exceeds 64 bits for most of these.
func TestCrossingsAtTheGreatestDurations(t *testing.T) {
	for _, s := range farSegments() {
		for k, way := range farSegments() {
			begin := int64(k%3) * 499999993
			track := trackOf(begin, way.A.X, way.A.Y, impl.MaxTime-int64(k%2), way.B.X, way.B.Y)
			if list, want := crossingsOf(t, track, impl.Line(s)), expectedCrossings(track, impl.Line(s)); !slices.Equal(list, want) {
				t.Fatalf("CrossingsOf(%v, %v) = %v, want %v", track, s, list, want)
			}
		}
	}
}

func TestTimesOfCrossingsAreRoundedUp(t *testing.T) {
	const m, end = impl.MaxCoord, impl.MaxTime
	axis := line(-m, 0, m, 0)
	ratio := func(num, den int64) impl.Ratio { return impl.Ratio{Num: num, Den: den} }
	for _, c := range []struct {
		track impl.Track
		l     impl.Line
		want  impl.Crossing
	}{
		{trackOf(0, 0, -1, 10, 0, 1), axis, impl.Crossing{Time: 5, Way: 1, Place: ratio(1, 2)}},
		{trackOf(0, 0, -1, 11, 0, 1), axis, impl.Crossing{Time: 6, Way: 1, Place: ratio(1, 2)}},
		{trackOf(0, 0, -1, 1, 0, 2), axis, impl.Crossing{Time: 1, Way: 1, Place: ratio(1, 3)}},
		{trackOf(0, 0, -1, 3, 0, 2), axis, impl.Crossing{Time: 1, Way: 1, Place: ratio(1, 3)}},
		{trackOf(0, 0, -1, 4, 0, 2), axis, impl.Crossing{Time: 2, Way: 1, Place: ratio(1, 3)}},
		{trackOf(5, 0, 4, 11, 0, -2), axis, impl.Crossing{Time: 9, Way: -1, Place: ratio(2, 3)}},
		{trackOf(0, 0, 0, 1, 0, 2), axis, impl.Crossing{Time: 0, Way: 1, Place: ratio(0, 1)}},
		{trackOf(end-1, 0, 5, end, 0, 0), axis, impl.Crossing{Time: end, Way: -1, Place: ratio(1, 1)}},
		{trackOf(end-1, 0, 0, end, 0, 5), axis, impl.Crossing{Time: end - 1, Way: 1, Place: ratio(0, 1)}},
		{trackOf(end-1, 0, -1, end, 0, m), axis, impl.Crossing{Time: end, Way: 1, Place: ratio(1, m+1)}},
		{trackOf(0, 0, -1, end, 0, m), axis, impl.Crossing{Time: 1000, Way: 1, Place: ratio(1, m+1)}},
		{trackOf(0, 0, -1, end, 0, m-1), axis, impl.Crossing{Time: 1000, Way: 1, Place: ratio(1, m)}},
		{trackOf(0, 0, -1, end, 0, m-2), axis, impl.Crossing{Time: 1001, Way: 1, Place: ratio(1, m-1)}},
		{trackOf(0, 0, m, end, 0, -1), axis, impl.Crossing{Time: 999999001, Way: -1, Place: ratio(m, m+1)}},
		{trackOf(0, m, -m, end, -m, m), line(-m, -m, m, m), impl.Crossing{Time: end / 2, Way: 1, Place: ratio(1, 2)}},
		{trackOf(0, m, -m, end, -m, m), line(-m, -m, m, m-1), impl.Crossing{Time: 499999875, Way: 1, Place: ratio(1999999, 3999999)}},
		{trackOf(0, m, 1-m, end, -m, m), line(-m, -m, m, m-1), impl.Crossing{Time: 499999750, Way: 1, Place: ratio(999999, 1999999)}},
		{trackOf(0, m-1, -m, end, -m, m), line(-m, -m, m, m-1), impl.Crossing{Time: 499999750, Way: 1, Place: ratio(3999996000001, 7999996000001)}},
	} {
		if list := crossingsOf(t, c.track, c.l); !slices.Equal(list, []impl.Crossing{c.want}) {
			t.Errorf("CrossingsOf(%v, %v) = %v, want %v", c.track, c.l, list, c.want)
		}
		if list := expectedCrossings(c.track, c.l); !slices.Equal(list, []impl.Crossing{c.want}) {
			t.Errorf("the tests expect %v of %v and %v, not %v", list, c.track, c.l, c.want)
		}
	}
}

func TestCrossingsHappenDuringTheirLegs(t *testing.T) {
	for _, track := range append(validTracks(), zigzag(impl.MaxFixes)) {
		for _, l := range linesAbout(track) {
			leg := int64(-1)
			for _, c := range crossingsOf(t, track, l) {
				if c.Leg <= leg || c.Leg >= int64(len(track.Fixes)-1) {
					t.Fatalf("a crossing of %v on the leg %d of %v follows the leg %d", l, c.Leg, track, leg)
				}
				leg = c.Leg
				checkPlace(t, c.Place)
				f, g := track.Fixes[leg], track.Fixes[leg+1]
				if c.Time < f.Time || c.Time > g.Time {
					t.Fatalf("%v crosses %v at %v, which is not during the leg", track, l, c)
				}
				if way := wayAcross(t, l, pointOf(f), pointOf(g)); c.Way != way || way == 0 {
					t.Fatalf("the crossing %v of %v by %v has not the Way %d", c, l, track, way)
				}
			}
		}
	}
}

// sailedBack has the points of a track in the opposite order, and its legs with their durations.
func sailedBack(track impl.Track) impl.Track {
	back := impl.Track{}
	for _, fix := range slices.Backward(track.Fixes) {
		fix.Time = firstTime(track) + lastTime(track) - fix.Time
		back.Fixes = append(back.Fixes, fix)
	}
	return back
}

func TestTheWayBackCrossesInTheOppositeDirection(t *testing.T) {
	for _, track := range append(validTracks(), zigzag(impl.MaxFixes)) {
		back := sailedBack(track)
		for _, l := range linesAbout(track) {
			there := crossingsOf(t, track, l)
			again := crossingsOf(t, back, l)
			if len(there) != len(again) {
				t.Fatalf("%v crosses %v as %v, but back as %v", track, l, there, again)
			}
			slices.Reverse(again)
			for k, c := range there {
				b := again[k]
				sum := new(big.Rat).Add(ratOf(c.Place), ratOf(b.Place))
				if b.Way != -c.Way || b.Leg != int64(len(track.Fixes)-2)-c.Leg || sum.Cmp(ratOne) != 0 {
					t.Fatalf("%v crosses %v as %v, but back as %v", track, l, c, b)
				}
			}
		}
	}
}

func TestCountCrossings(t *testing.T) {
	l := line(-5, 0, 5, 0)
	for _, c := range []struct {
		track             impl.Track
		forward, backward int64
	}{
		{trackOf(0, 0, -1, 10, 0, 2, 20, 0, -2), 1, 1}, {trackOf(0, 0, -1, 10, 0, 2), 1, 0}, {trackOf(0, 0, 2, 10, 0, -2), 0, 1}, {trackOf(0, 0, 2, 10, 0, 3), 0, 0},
		{trackOf(0, 0, 1, 10, 0, 0, 20, 0, 1, 30, 0, 0, 40, 0, 1), 2, 2}, {trackOf(0, 0, 1, 10, 0, -1, 20, 6, -1, 30, 6, 1, 40, 0, 1, 50, 0, 0), 0, 2},
	} {
		if forward, backward, code := impl.CountCrossings(c.track, l); code != impl.ErrNone || forward != c.forward || backward != c.backward {
			t.Errorf("CountCrossings(%v, %v) = %d, %d, %d, want %d, %d", c.track, l, forward, backward, code, c.forward, c.backward)
		}
	}
	for _, track := range validTracks() {
		for _, l := range linesAbout(track) {
			var counts [3]int64
			for _, c := range expectedCrossings(track, l) {
				counts[c.Way+1]++
			}
			if forward, backward, code := impl.CountCrossings(track, l); code != impl.ErrNone || forward != counts[2] || backward != counts[0] {
				t.Fatalf("CountCrossings(%v, %v) = %d, %d, %d, want %d, %d", track, l, forward, backward, code, counts[2], counts[0])
			}
		}
	}
}

func TestCrossingPoint(t *testing.T) {
	track := trackOf(0, 0, -1, 10, 3, 2, 20, -4, -2, 30, -4, 1)
	axis := line(-5, 0, 5, 0)
	for k, want := range []impl.Point{{X: 1}, {X: -1}, {X: -4}} {
		if p, code := impl.CrossingPoint(track, axis, int64(k)); code != impl.ErrNone || p != want {
			t.Errorf("CrossingPoint(%v, %v, %d) = %v, %d, want %v", track, axis, k, p, code, want)
		}
	}
	// The crossing is at {-3/2, 1/2}, forward or backward.
	for _, l := range []impl.Line{line(-2, 1, -1, 0), line(-1, 0, -2, 1)} {
		if p, code := impl.CrossingPoint(trackOf(0, -2, 0, 1, -1, 1), l, 0); code != impl.ErrNone || p != (impl.Point{X: -2}) {
			t.Errorf("the crossing of %v at {-3/2, 1/2} has the point %v, %d", l, p, code)
		}
	}
}

func TestPointsOfAllCrossings(t *testing.T) {
	for _, track := range append(validTracks(), zigzag(impl.MaxFixes)) {
		for _, l := range linesAbout(track) {
			list := expectedCrossings(track, l)
			for k, c := range list {
				f, g := track.Fixes[c.Leg], track.Fixes[c.Leg+1]
				want := impl.Point{X: expectedAt(f.X, g.X, c.Place), Y: expectedAt(f.Y, g.Y, c.Place)}
				if p, code := impl.CrossingPoint(track, l, int64(k)); code != impl.ErrNone || p != want {
					t.Fatalf("CrossingPoint(%v, %v, %d) = %v, %d, want %v", track, l, k, p, code, want)
				}
			}
			n := int64(len(list))
			for _, k := range append([]int64{-1, n, n + 1, impl.MaxFixes, 1 << 32}, extremes...) {
				if p, code := impl.CrossingPoint(track, l, k); code != impl.ErrNotFound || p != (impl.Point{}) {
					t.Fatalf("CrossingPoint(%v, %v, %d) = %v, %d, want ErrNotFound", track, l, k, p, code)
				}
			}
		}
	}
}
