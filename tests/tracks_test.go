package tests

import (
	"math/big"
	"slices"
	"testing"

	"loop.example/g00887/impl"
)

// trackOf makes a track of times and coordinates, three numbers a fix.
func trackOf(numbers ...int64) impl.Track {
	track := impl.Track{}
	for fix := range slices.Chunk(numbers, 3) {
		track.Fixes = append(track.Fixes, impl.Fix{Time: fix[0], X: fix[1], Y: fix[2]})
	}
	return track
}

// windingTrack has n fixes at odd distances and times from start on, with coordinates that increase
// and decrease, of both signs.
func windingTrack(n int, start int64) impl.Track {
	track := impl.Track{}
	time := start
	for k := range int64(n) {
		track.Fixes = append(track.Fixes, impl.Fix{Time: time, X: k*k*37%101 - 50, Y: 40 - k*53%89})
		time += 1 + k*k%7
	}
	return track
}

// farTracks reach the limits of the coordinates and of the times.
func farTracks() []impl.Track {
	const m, end = impl.MaxCoord, impl.MaxTime
	return []impl.Track{
		trackOf(0, -m, m, end, m, -m),
		trackOf(0, m, -m, end, -m, m),
		trackOf(0, -m, m, 1, m, -m),
		trackOf(end-1, m, m, end, -m, -m),
		trackOf(0, -m, -m, 1, m, m, end-1, -m, m-1, end, m, -m),
		trackOf(0, 1-m, m, 3, m, -m, 999999937, -m, m-1, end, m, m),
		trackOf(5, 0, 0, 500000000, -1, 1, end, 0, 0),
	}
}

func validTracks() []impl.Track {
	tracks := []impl.Track{
		trackOf(0, 0, 0, 10, 3, 0, 20, 3, -5),
		trackOf(0, 0, 0, 10, 3, 0),
		trackOf(0, 1, 1, 5, 1, 1),
		trackOf(7, -3, 4, 8, 5, -6, 11, -5, -5, 20, -5, -5, 21, 0, 1),
	}
	for n := 2; n <= impl.MaxFixes; n++ {
		tracks = append(tracks, windingTrack(n, int64(n%3)))
	}
	return append(tracks, farTracks()...)
}

// changed returns the track with another fix at the index k.
func changed(track impl.Track, k int, fix impl.Fix) impl.Track {
	fixes := slices.Clone(track.Fixes)
	fixes[k] = fix
	return impl.Track{Fixes: fixes}
}

// invalidTracks have one fault each, in a track that is valid without it.
func invalidTracks() []impl.Track {
	tracks := []impl.Track{
		{}, {Fixes: []impl.Fix{}}, trackOf(0, 0, 0), trackOf(7, 1, 2),
		windingTrack(impl.MaxFixes+1, 0), windingTrack(2*impl.MaxFixes, 0),
		trackOf(0, 0, 0, 0, 0, 0), trackOf(5, 0, 0, 5, 1, 1), trackOf(6, 0, 0, 5, 1, 1), trackOf(impl.MaxTime, 0, 0, 0, 1, 1),
		trackOf(-1, 0, 0, 5, 1, 1), trackOf(5, 0, 0, impl.MaxTime+1, 1, 1), trackOf(-2, 0, 0, -1, 1, 1),
		trackOf(impl.MaxTime, 0, 0, impl.MaxTime, 1, 1), trackOf(impl.MaxTime+1, 0, 0, impl.MaxTime+2, 1, 1),
	}
	for _, n := range []int{2, 5, impl.MaxFixes} {
		good := windingTrack(n, 4)
		for _, k := range []int{0, 1, n / 2, n - 2, n - 1} {
			fix := good.Fixes[k]
			for _, p := range invalidPoints() {
				tracks = append(tracks, changed(good, k, impl.Fix{Time: fix.Time, X: p.X, Y: p.Y}))
			}
			for _, time := range append([]int64{-1, impl.MaxTime + 1}, extremes...) {
				tracks = append(tracks, changed(good, k, impl.Fix{Time: time, X: fix.X, Y: fix.Y}))
			}
			if k > 0 {
				before := good.Fixes[k-1].Time
				for _, time := range []int64{before, before - 1, 0} {
					tracks = append(tracks, changed(good, k, impl.Fix{Time: time, X: fix.X, Y: fix.Y}))
				}
			}
		}
	}
	return tracks
}

func firstTime(track impl.Track) int64 { return track.Fixes[0].Time }

func lastTime(track impl.Track) int64 { return track.Fixes[len(track.Fixes)-1].Time }

// timesOutside are times at which a track does not last, the nearest ones first.
func timesOutside(track impl.Track) []int64 {
	return append([]int64{firstTime(track) - 1, lastTime(track) + 1, -impl.MaxTime, 2 * impl.MaxTime}, extremes...)
}

// timesWithin are the times of the fixes and times next to them and between them.
func timesWithin(track impl.Track) []int64 {
	times := []int64{}
	for k, fix := range track.Fixes {
		times = append(times, fix.Time-1, fix.Time, fix.Time+1)
		if k > 0 {
			before := track.Fixes[k-1].Time
			span := fix.Time - before
			times = append(times, before+span/3, before+span/2, fix.Time-span/3)
		}
	}
	slices.Sort(times)
	times = slices.Compact(times)
	return slices.DeleteFunc(times, func(time int64) bool { return time < firstTime(track) || time > lastTime(track) })
}

// expectedLeg looks at all legs, where the program searches.
func expectedLeg(track impl.Track, time int64) int {
	leg := 0
	for k := range len(track.Fixes) - 1 {
		if track.Fixes[k].Time <= time {
			leg = k
		}
	}
	return leg
}

func expectedPosition(track impl.Track, time int64) impl.Point {
	k := expectedLeg(track, time)
	f, g := track.Fixes[k], track.Fixes[k+1]
	place := impl.Ratio{Num: time - f.Time, Den: g.Time - f.Time}
	return impl.Point{X: expectedAt(f.X, g.X, place), Y: expectedAt(f.Y, g.Y, place)}
}

// positionAt returns a position that has to exist.
func positionAt(t *testing.T, track impl.Track, time int64) impl.Point {
	t.Helper()
	p, code := impl.PositionAt(track, time)
	if code != impl.ErrNone {
		t.Fatalf("PositionAt(%v, %d): code %d", track, time, code)
	}
	return p
}

func TestIsTrack(t *testing.T) {
	if impl.MaxFixes != 40 {
		t.Error("MaxFixes is", impl.MaxFixes)
	}
	for _, track := range validTracks() {
		if !impl.IsTrack(track) {
			t.Errorf("%v is valid", track)
		}
	}
	for _, track := range invalidTracks() {
		if impl.IsTrack(track) {
			t.Errorf("%v is not valid", track)
		}
	}
}

func TestIsTrackAtTheLimits(t *testing.T) {
	for n := range 2*impl.MaxFixes + 3 {
		want := 2 <= n && n <= impl.MaxFixes
		if got := impl.IsTrack(windingTrack(n, 0)); got != want {
			t.Errorf("with %d fixes: %v, want %v", n, got, want)
		}
	}
	for _, c := range []struct {
		from, to int64
		want     bool
	}{
		{0, impl.MaxTime, true}, {0, 1, true}, {impl.MaxTime - 1, impl.MaxTime, true},
		{-1, impl.MaxTime, false}, {0, impl.MaxTime + 1, false}, {0, 0, false}, {1, 0, false},
	} {
		if got := impl.IsTrack(trackOf(c.from, 0, 0, c.to, 0, 0)); got != c.want {
			t.Errorf("from %d to %d: %v, want %v", c.from, c.to, got, c.want)
		}
	}
	for _, p := range validPoints() {
		if !impl.IsTrack(trackOf(0, p.X, p.Y, 1, 0, 0)) || !impl.IsTrack(trackOf(0, 0, 0, 1, p.X, p.Y)) {
			t.Errorf("a track with a fix at %v is valid", p)
		}
	}
}

func TestPositionAt(t *testing.T) {
	const m, end = impl.MaxCoord, impl.MaxTime
	bent := trackOf(0, 0, 0, 10, 3, 0, 20, 3, -5)
	falling, far := trackOf(100, 3, -3, 107, -4, -13), trackOf(0, -m, m, end, m, -m)
	for _, c := range []struct {
		track impl.Track
		time  int64
		want  impl.Point
	}{
		{trackOf(0, 0, 0, 10, 3, 0), 5, impl.Point{X: 1}},
		{bent, 0, impl.Point{}}, {bent, 3, impl.Point{}}, {bent, 4, impl.Point{X: 1}}, {bent, 9, impl.Point{X: 2}},
		{bent, 10, impl.Point{X: 3}}, {bent, 11, impl.Point{X: 3, Y: -1}}, {bent, 15, impl.Point{X: 3, Y: -3}},
		{bent, 19, impl.Point{X: 3, Y: -5}}, {bent, 20, impl.Point{X: 3, Y: -5}},
		{falling, 100, impl.Point{X: 3, Y: -3}}, {falling, 101, impl.Point{X: 2, Y: -5}}, {falling, 104, impl.Point{X: -1, Y: -9}}, {falling, 107, impl.Point{X: -4, Y: -13}},
		{far, 0, impl.Point{X: -m, Y: m}}, {far, 1, impl.Point{X: -m, Y: m - 1}}, {far, 500, impl.Point{X: 1 - m, Y: m - 1}}, {far, 501, impl.Point{X: 1 - m, Y: m - 2}},
		{far, end/2 - 1, impl.Point{X: -1}}, {far, end / 2, impl.Point{}}, {far, end/2 + 1, impl.Point{Y: -1}},
		{far, end - 1, impl.Point{X: m - 1, Y: -m}}, {far, end, impl.Point{X: m, Y: -m}},
		{trackOf(0, 1, 1, 5, 1, 1), 2, impl.Point{X: 1, Y: 1}},
	} {
		if p, code := impl.PositionAt(c.track, c.time); code != impl.ErrNone || p != c.want {
			t.Errorf("PositionAt(%v, %d) = %v, %d, want %v", c.track, c.time, p, code, c.want)
		}
	}
}

func TestPositionsRoundDown(t *testing.T) {
	for _, track := range validTracks() {
		for _, time := range timesWithin(track) {
			if p, want := positionAt(t, track, time), expectedPosition(track, time); p != want {
				t.Fatalf("PositionAt(%v, %d) = %v, want %v", track, time, p, want)
			}
		}
	}
}

func TestPositionsAtFixesAreTheirs(t *testing.T) {
	for _, track := range validTracks() {
		for _, fix := range track.Fixes {
			if p := positionAt(t, track, fix.Time); p != (impl.Point{X: fix.X, Y: fix.Y}) {
				t.Fatalf("%v has the position %v at the fix %v", track, p, fix)
			}
		}
	}
}

func TestLegAt(t *testing.T) {
	bent := trackOf(3, 0, 0, 10, 3, 0, 20, 3, -5)
	for time, want := range map[int64]int64{3: 0, 4: 0, 9: 0, 10: 1, 11: 1, 19: 1, 20: 1} {
		if k, code := impl.LegAt(bent, time); code != impl.ErrNone || k != want {
			t.Errorf("LegAt(%v, %d) = %d, %d, want %d", bent, time, k, code, want)
		}
	}
	for _, track := range validTracks() {
		for _, time := range timesWithin(track) {
			if k, code := impl.LegAt(track, time); code != impl.ErrNone || k != int64(expectedLeg(track, time)) {
				t.Fatalf("LegAt(%v, %d) = %d, %d", track, time, k, code)
			}
		}
		if k, code := impl.LegAt(track, lastTime(track)); code != impl.ErrNone || k != int64(len(track.Fixes)-2) {
			t.Fatalf("at its end, the leg of %v is %d, %d", track, k, code)
		}
	}
}

func TestHeadingAt(t *testing.T) {
	const m = impl.MaxCoord
	// The middle leg has no length.
	stopped := trackOf(0, 0, 0, 10, 3, 4, 20, 3, 4, 30, -1, 4)
	for _, c := range []struct {
		track impl.Track
		time  int64
		want  impl.Point
		code  int64
	}{
		{stopped, 0, impl.Point{X: 3, Y: 4}, impl.ErrNone}, {stopped, 9, impl.Point{X: 3, Y: 4}, impl.ErrNone},
		{stopped, 10, impl.Point{}, impl.ErrState}, {stopped, 19, impl.Point{}, impl.ErrState},
		{stopped, 20, impl.Point{X: -4}, impl.ErrNone}, {stopped, 30, impl.Point{X: -4}, impl.ErrNone},
		{trackOf(0, 1, 1, 5, 1, 1), 2, impl.Point{}, impl.ErrState},
		{trackOf(0, 1, 1, 5, 1, 1), 6, impl.Point{}, impl.ErrRange},
		{trackOf(0, 1, 1, 5, 1, 0), 5, impl.Point{Y: -1}, impl.ErrNone},
		{trackOf(0, -m, m, 1, m, -m), 0, impl.Point{X: 2 * m, Y: -2 * m}, impl.ErrNone},
		{trackOf(0, m, -m, 1, -m, m), 1, impl.Point{X: -2 * m, Y: 2 * m}, impl.ErrNone},
	} {
		if v, code := impl.HeadingAt(c.track, c.time); code != c.code || v != c.want {
			t.Errorf("HeadingAt(%v, %d) = %v, %d, want %v, %d", c.track, c.time, v, code, c.want, c.code)
		}
	}
	for _, track := range validTracks() {
		for _, time := range timesWithin(track) {
			k := expectedLeg(track, time)
			f, g := track.Fixes[k], track.Fixes[k+1]
			want, wantCode := impl.Point{X: g.X - f.X, Y: g.Y - f.Y}, int64(impl.ErrNone)
			if want == (impl.Point{}) {
				wantCode = impl.ErrState
			}
			if v, code := impl.HeadingAt(track, time); code != wantCode || v != want {
				t.Fatalf("HeadingAt(%v, %d) = %v, %d, want %v, %d", track, time, v, code, want, wantCode)
			}
		}
	}
}

func TestOutsideOfATrack(t *testing.T) {
	for _, track := range validTracks() {
		for _, time := range timesOutside(track) {
			if p, code := impl.PositionAt(track, time); p != (impl.Point{}) || code != impl.ErrRange {
				t.Fatalf("PositionAt(%v, %d) = %v, %d, want ErrRange", track, time, p, code)
			}
			if k, code := impl.LegAt(track, time); k != 0 || code != impl.ErrRange {
				t.Fatalf("LegAt(%v, %d) = %d, %d, want ErrRange", track, time, k, code)
			}
			if v, code := impl.HeadingAt(track, time); v != (impl.Point{}) || code != impl.ErrRange {
				t.Fatalf("HeadingAt(%v, %d) = %v, %d, want ErrRange", track, time, v, code)
			}
		}
	}
}

// isSpeed says whether n is the greatest integer whose square times the square of the duration is
// at most 10^6 times the square of the length, or the greatest speed if that is less.
func isSpeed(n int64, f, g impl.Fix) bool {
	way := bigWay(impl.Point{X: f.X, Y: f.Y}, impl.Point{X: g.X, Y: g.Y})
	limit := bigProduct(way.dot(way), big.NewInt(1000000))
	duration := bigDifference(g.Time, f.Time)
	reaches := func(speed int64) bool {
		distance := bigProduct(big.NewInt(speed), duration)
		return bigProduct(distance, distance).Cmp(limit) <= 0
	}
	return 0 <= n && n <= 1000000 && reaches(n) && (n == 1000000 || !reaches(n+1))
}

func TestSpeedOf(t *testing.T) {
	const m, end = impl.MaxCoord, impl.MaxTime
	for _, c := range []struct {
		track impl.Track
		want  int64
	}{
		{trackOf(0, 0, 0, 1000, 30, 40), 50}, {trackOf(0, 0, 0, 1000, 50, 0), 50}, {trackOf(500, 30, 40, 1500, 0, 0), 50},
		{trackOf(0, 0, 0, 1001, 50, 0), 49}, {trackOf(0, 0, 0, 999, 50, 0), 50}, {trackOf(0, 0, 0, 1000, 1, 1), 1}, {trackOf(0, 0, 0, 1, 1, 1), 1414},
		{trackOf(0, 7, 7, 1, 7, 7), 0}, {trackOf(0, 0, 0, 1000, 1, 0), 1}, {trackOf(0, 0, 0, 1001, 1, 0), 0}, {trackOf(0, 0, 0, end, 1, 0), 0},
		{trackOf(0, -m, -m, end, m, m), 2}, {trackOf(0, -m, 0, end, m, 0), 2}, {trackOf(0, 0, 0, end, m, 0), 1}, {trackOf(0, 0, 0, end, m-1, 0), 0},
		{trackOf(0, 0, 0, 1, 1000, 0), 1000000}, {trackOf(0, 0, 0, 1, 999, 0), 999000}, {trackOf(0, 0, 0, 1, 1001, 0), 1000000}, {trackOf(0, 0, 0, 1, 999, 44), 999968},
		{trackOf(0, 0, 0, 1000, m, 0), 1000000}, {trackOf(0, 0, 0, 1000, m-1, 0), 999999}, {trackOf(0, 0, 0, 1001, m, 0), 999000}, {trackOf(0, 0, 0, 1000, m, 1), 1000000},
		{trackOf(0, -m, -m, 1, m, m), 1000000}, {trackOf(0, -m, 0, 1, m, 0), 1000000}, {trackOf(0, m, m, 2, -m, -m), 1000000}, {trackOf(end-1, m, -m, end, -m, m), 1000000},
		// Rounding before the second division by the duration would lose one.
		{trackOf(0, 0, 0, 1001, 1, 1), 1}, {trackOf(0, 0, 0, 1001, 9, 8), 12},
		{trackOf(0, -m, -m, 2828, m, m), 1000000}, {trackOf(0, -m, -m, 2829, m, m), 999797},
	} {
		if n, code := impl.SpeedOf(c.track, 0); code != impl.ErrNone || n != c.want {
			t.Errorf("SpeedOf(%v, 0) = %d, %d, want %d", c.track, n, code, c.want)
		}
		if !isSpeed(c.want, c.track.Fixes[0], c.track.Fixes[1]) {
			t.Errorf("%d is not the speed of %v", c.want, c.track)
		}
	}
}

func TestSpeedsOfAllLegs(t *testing.T) {
	for _, track := range validTracks() {
		legs := int64(len(track.Fixes) - 1)
		for k := range legs {
			n, code := impl.SpeedOf(track, k)
			if code != impl.ErrNone || !isSpeed(n, track.Fixes[k], track.Fixes[k+1]) {
				t.Fatalf("SpeedOf(%v, %d) = %d, %d", track, k, n, code)
			}
		}
		for _, k := range append([]int64{-1, legs, legs + 1, impl.MaxFixes, 1 << 32}, extremes...) {
			if n, code := impl.SpeedOf(track, k); n != 0 || code != impl.ErrNotFound {
				t.Fatalf("SpeedOf(%v, %d) = %d, %d, want ErrNotFound", track, k, n, code)
			}
		}
	}
}

func TestSpeedsOfShortWays(t *testing.T) {
	for _, duration := range []int64{1, 2, 3, 999, 1000, 1001, 1007, 2829, 7777} {
		for x := range int64(25) {
			for y := range x + 1 {
				track := trackOf(3, -x, y, 3+duration, 0, 0)
				if n, code := impl.SpeedOf(track, 0); code != impl.ErrNone || !isSpeed(n, track.Fixes[0], track.Fixes[1]) {
					t.Fatalf("SpeedOf(%v, 0) = %d, %d", track, n, code)
				}
			}
		}
	}
}

func TestSpeedsNearTheGreatestOne(t *testing.T) {
	for duration := int64(1); duration <= 2830; duration += 23 {
		for x := duration*1000 - 40; x <= duration*1000+40; x += 8 {
			for _, y := range []int64{0, 1, 1000, 44721} {
				// From the west to the east, so that ways of up to twice MaxCoord have valid ends.
				track := trackOf(9, -x/2, y, 9+duration, x-x/2, 0)
				if !impl.IsTrack(track) {
					continue
				}
				if n, code := impl.SpeedOf(track, 0); code != impl.ErrNone || !isSpeed(n, track.Fixes[0], track.Fixes[1]) {
					t.Fatalf("SpeedOf(%v, 0) = %d, %d", track, n, code)
				}
			}
		}
	}
}

func expectedClosest(track impl.Track, p impl.Point) int64 {
	closest, smallest := -1, new(big.Int)
	for k, fix := range track.Fixes {
		way := bigWay(p, impl.Point{X: fix.X, Y: fix.Y})
		if square := way.dot(way); closest < 0 || square.Cmp(smallest) < 0 {
			closest, smallest = k, square
		}
	}
	return int64(closest)
}

func TestClosestFix(t *testing.T) {
	const m = impl.MaxCoord
	bent := trackOf(0, 0, 0, 10, 3, 0, 20, 3, -5)
	for _, c := range []struct {
		track impl.Track
		p     impl.Point
		want  int64
	}{
		{bent, impl.Point{}, 0}, {bent, impl.Point{X: 3}, 1}, {bent, impl.Point{X: 3, Y: -5}, 2},
		{bent, impl.Point{X: 3, Y: -4}, 2}, {bent, impl.Point{X: 3, Y: -2}, 1}, {bent, impl.Point{X: m, Y: m}, 1}, {bent, impl.Point{X: -m, Y: m}, 0}, {bent, impl.Point{X: m, Y: -m}, 2},
		{trackOf(0, -2, 0, 1, 2, 0), impl.Point{Y: 5}, 0},
		{trackOf(0, 9, 9, 1, 2, 0, 2, -2, 0, 3, 0, 2), impl.Point{}, 1},
		{trackOf(0, 9, 9, 1, 9, 8, 2, 4, 4, 3, 4, 4), impl.Point{X: 4, Y: 4}, 2},
		{trackOf(0, 3, 3, 1, 4, 0), impl.Point{}, 1},
		{trackOf(0, m, m, 1, m, m-1), impl.Point{X: -m, Y: -m}, 1}, {trackOf(0, -m, 1-m, 1, -m, -m), impl.Point{X: m, Y: m}, 0},
	} {
		if k, code := impl.ClosestFix(c.track, c.p); code != impl.ErrNone || k != c.want {
			t.Errorf("ClosestFix(%v, %v) = %d, %d, want %d", c.track, c.p, k, code, c.want)
		}
	}
	for _, track := range validTracks() {
		points := validPoints()
		for _, fix := range track.Fixes {
			points = append(points, impl.Point{X: fix.X, Y: fix.Y})
		}
		for _, p := range points {
			if k, code := impl.ClosestFix(track, p); code != impl.ErrNone || k != expectedClosest(track, p) {
				t.Fatalf("ClosestFix(%v, %v) = %d, %d, want %d", track, p, k, code, expectedClosest(track, p))
			}
		}
	}
}

func TestClosestFixOfInvalidArguments(t *testing.T) {
	for _, bad := range invalidPoints() {
		for _, track := range []impl.Track{trackOf(0, 0, 0, 10, 3, 0), farTracks()[0], {}} {
			if k, code := impl.ClosestFix(track, bad); k != 0 || code != impl.ErrInvalid {
				t.Fatalf("ClosestFix(%v, %v) = %d, %d, want ErrInvalid", track, bad, k, code)
			}
		}
	}
	for _, bad := range invalidTracks() {
		for _, p := range []impl.Point{{}, {X: 9, Y: -9}, {X: impl.MaxCoord + 1}} {
			if k, code := impl.ClosestFix(bad, p); k != 0 || code != impl.ErrInvalid {
				t.Fatalf("ClosestFix(%v, %v) = %d, %d, want ErrInvalid", bad, p, k, code)
			}
		}
	}
}

// ErrInvalid comes before ErrRange, ErrState and ErrNotFound: some of these numbers are times and
// legs of the tracks, the others are none.
func TestFunctionsRefuseInvalidTracks(t *testing.T) {
	for _, bad := range invalidTracks() {
		for _, n := range append([]int64{-1, 0, 1, 5, 20, impl.MaxTime, impl.MaxTime + 1}, extremes...) {
			if p, code := impl.PositionAt(bad, n); p != (impl.Point{}) || code != impl.ErrInvalid {
				t.Fatalf("PositionAt(%v, %d) = %v, %d, want ErrInvalid", bad, n, p, code)
			}
			if k, code := impl.LegAt(bad, n); k != 0 || code != impl.ErrInvalid {
				t.Fatalf("LegAt(%v, %d) = %d, %d, want ErrInvalid", bad, n, k, code)
			}
			if v, code := impl.HeadingAt(bad, n); v != (impl.Point{}) || code != impl.ErrInvalid {
				t.Fatalf("HeadingAt(%v, %d) = %v, %d, want ErrInvalid", bad, n, v, code)
			}
			if x, code := impl.SpeedOf(bad, n); x != 0 || code != impl.ErrInvalid {
				t.Fatalf("SpeedOf(%v, %d) = %d, %d, want ErrInvalid", bad, n, x, code)
			}
		}
	}
}
