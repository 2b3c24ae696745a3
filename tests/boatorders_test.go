package tests

import (
	"cmp"
	"math/rand"
	"slices"
	"testing"

	"loop.example/g00887/impl"
)

func TestDistanceToNext(t *testing.T) {
	c := shortCourse()
	full := joined(startPart, roundPart, finishPart)
	behind := trackOf(5, 3, -4, 105, 3, -104)
	for _, row := range []struct {
		name     string
		track    impl.Track
		time     int64
		distance int64
		code     int64
	}{
		{"before the start", full, 0, 10, impl.ErrNone},
		// The position is {-1, -1}, rounded down from {-9/20, -1}.
		{"just before the start", full, 9, 1, impl.ErrNone},
		{"at the start", full, 10, 100, impl.ErrNone},
		{"just before the mark", full, 149, 5, impl.ErrNone},
		{"at the mark", full, 150, 114, impl.ErrNone},
		{"just before the finish", full, 349, 1, impl.ErrNone},
		{"at the finish", full, 350, 0, impl.ErrState},
		{"behind the finish", full, 351, 0, impl.ErrState},
		{"at the end", full, 400, 0, impl.ErrState},
		{"behind the end of a track that has finished", full, 401, 0, impl.ErrState},
		{"at the greatest number", full, extremes[3], 0, impl.ErrState},
		{"before a track that finishes", full, -1, 0, impl.ErrLimit},
		{"at the least number", full, extremes[0], 0, impl.ErrLimit},
		{"at the beginning", behind, 5, 5, impl.ErrNone},
		{"at the end without a start", behind, 105, 104, impl.ErrNone},
		{"before the track", behind, 4, 0, impl.ErrLimit},
		{"behind the track", behind, 106, 0, impl.ErrLimit},
		{"at the end behind the start", joined(startPart), 100, 11, impl.ErrNone},
		{"behind the end of a track that has started", joined(startPart), 101, 0, impl.ErrLimit},
		{"at the finish at the end of a track", joined(startPart, roundPart, []int64{300, 40, 0, 310, 50, 0, 311, 51, 0}), 310, 0, impl.ErrState},
		{"on the finish without a crossing", joined(startPart, roundPart, []int64{300, 40, 0, 310, 50, 0}), 310, 0, impl.ErrNone},
	} {
		t.Run(row.name, func(t *testing.T) {
			if n, code := impl.DistanceToNext(c, row.track, row.time); n != row.distance || code != row.code {
				t.Errorf("DistanceToNext(%v, %v, %d) = %d, %d, want %d, %d", c, row.track, row.time, n, code, row.distance, row.code)
			}
		})
	}
}

// The middle of the start is {-m, -m}, rounded down.
func TestFarDistancesToNext(t *testing.T) {
	const m = impl.MaxCoord
	c := course(line(-m, -m, 1-m, 1-m), line(m, m, m-1, m-2), mark("m", m-30, m, impl.MarkPort, 1))
	far := trackOf(0, m, m, impl.MaxTime, -m, -m)
	for time, want := range map[int64]int64{0: 2828427, 1: 2828425, impl.MaxTime / 2: 1414213, impl.MaxTime: 0} {
		if n, code := impl.DistanceToNext(c, far, time); code != impl.ErrNone || n != want {
			t.Errorf("DistanceToNext(%v, %v, %d) = %d, %d, want %d", c, far, time, n, code, want)
		}
	}
	// From the start at 0 on, the mark is the next station: it is 1999970 to the east and 1999999 to the north.
	c.Start = line(-m, 1-m, 2-m, 1-m)
	started := trackOf(0, -m, 1-m, 1, 1-m, 2-m)
	if n, code := impl.DistanceToNext(c, started, 0); code != impl.ErrNone || n != 2828405 {
		t.Errorf("DistanceToNext(%v, %v, 0) = %d, %d", c, started, n, code)
	}
}

// later is the track some milliseconds later.
func later(track impl.Track, delay int64) impl.Track {
	track.Fixes = slices.Clone(track.Fixes)
	for k := range track.Fixes {
		track.Fixes[k].Time += delay
	}
	return track
}

func TestOrderAt(t *testing.T) {
	full := joined(startPart, roundPart, finishPart)
	never, wrong := trackOf(0, 0, -10, 100, 5, -1), trackOf(0, 0, -10, 100, 5, 90, 200, 5, 110, 300, 40, 0, 400, 60, 0)
	slow, ahead := joined(startPart, roundPart, []int64{1300, 40, 0, 1400, 60, 0}), joined(startPart, []int64{110, -5, 110}, finishPart)
	mixed := []impl.Track{never, later(full, 20), full, full, wrong}
	for _, c := range []struct {
		name   string
		tracks []impl.Track
		time   int64
		want   []int64
	}{
		{"no tracks", nil, 100, nil},
		{"no tracks, but memory", make([]impl.Track, 0, 3), 100, nil},
		{"one track", []impl.Track{full}, 100, []int64{0}},
		{"one track that never starts", []impl.Track{never}, 100, []int64{0}},
		{"equal tracks", []impl.Track{full, full, full, full}, 200, []int64{0, 1, 2, 3}},
		{"none has started", mixed, 9, []int64{0, 1, 2, 3, 4}},
		{"a negative time", mixed, -1, []int64{0, 1, 2, 3, 4}},
		{"the least number", mixed, extremes[0], []int64{0, 1, 2, 3, 4}},
		{"some have started", mixed, 10, []int64{2, 3, 4, 0, 1}},
		{"just before another one starts", mixed, 29, []int64{2, 3, 4, 0, 1}},
		{"later ones start", mixed, 30, []int64{2, 3, 4, 1, 0}},
		{"just before the mark", mixed, 149, []int64{2, 3, 4, 1, 0}},
		{"more stations count more than an earlier time", mixed, 170, []int64{2, 3, 1, 4, 0}},
		{"the first have finished", mixed, 350, []int64{2, 3, 1, 4, 0}},
		{"all have ended", mixed, 5000, []int64{2, 3, 1, 4, 0}},
		{"the greatest number", mixed, extremes[3], []int64{2, 3, 1, 4, 0}},
		{"the last station decides", []impl.Track{later(ahead, 5), full}, 120, []int64{0, 1}},
		{"earlier at the start", []impl.Track{later(ahead, 5), full}, 50, []int64{1, 0}},
		{"earlier at the mark, later at the start", []impl.Track{full, later(ahead, 5)}, 200, []int64{1, 0}},
		{"later at the finish", []impl.Track{full, later(ahead, 5)}, 400, []int64{0, 1}},
		{"earlier at the mark, equal at the start", []impl.Track{full, ahead}, 200, []int64{1, 0}},
		{"the mark does not count at the finish", []impl.Track{full, ahead}, 400, []int64{0, 1}},
		{"equal times up to the mark", []impl.Track{slow, full}, 349, []int64{0, 1}},
		{"equal times up to the mark, but not at the finish", []impl.Track{slow, full}, 350, []int64{1, 0}},
		{"a later finish", []impl.Track{slow, full}, 1400, []int64{1, 0}},
		{"three that never start, at their place", []impl.Track{never, full, never, later(full, 1), never}, 400, []int64{1, 3, 0, 2, 4}},
		{"started at the time 0", []impl.Track{never, trackOf(0, 0, 0, 5, 0, 1), never}, 0, []int64{1, 0, 2}},
	} {
		t.Run(c.name, func(t *testing.T) {
			if order, code := impl.OrderAt(shortCourse(), c.tracks, c.time); code != impl.ErrNone || !slices.Equal(order, c.want) {
				t.Errorf("OrderAt(.., %d) = %v, %d, want %v", c.time, order, code, c.want)
			}
		})
	}
}

func TestOrderOfNoBoatsIsNil(t *testing.T) {
	for _, c := range sailableCourses() {
		for _, time := range append([]int64{-1, 0, 1, impl.MaxTime}, extremes...) {
			if order, code := impl.OrderAt(c, nil, time); code != impl.ErrNone || order != nil {
				t.Fatalf("OrderAt(%v, nil, %d) = %v, %d", c, time, order, code)
			}
		}
	}
}

func TestOrderOfTheGreatestNumberOfBoats(t *testing.T) {
	full := joined(startPart, roundPart, finishPart)
	tracks := []impl.Track{}
	for k := range int64(impl.MaxBoats) {
		tracks = append(tracks, later(full, k*5%impl.MaxBoats))
	}
	want := []int64{}
	for k := range int64(impl.MaxBoats) {
		want = append(want, k*13%impl.MaxBoats)
	}
	for _, time := range []int64{25, 100, 149, 165, 349, 365, 1000} {
		if order, code := impl.OrderAt(shortCourse(), tracks, time); code != impl.ErrNone || !slices.Equal(order, want) {
			t.Errorf("OrderAt(.., %d) = %v, %d, want %v", time, order, code, want)
		}
	}
	for n := range impl.MaxBoats + 1 {
		order, code := impl.OrderAt(shortCourse(), tracks[:n], 9)
		if code != impl.ErrNone || len(order) != n || !slices.IsSorted(order) {
			t.Errorf("OrderAt of %d boats that have not started is %v, %d", n, order, code)
		}
	}
}

// lastUpTo returns the time of the last station that is reached at or before a time, or 0.
func lastUpTo(times []int64, time int64) int64 {
	if n := countUpTo(times, time); n > 0 {
		return times[n-1]
	}
	return 0
}

// randomTracks has some tracks twice, and some of them later.
func randomTracks(random *rand.Rand) []impl.Track {
	tracks := []impl.Track{randomTrack(random)}
	for range random.Intn(impl.MaxBoats) {
		if random.Intn(3) > 0 {
			tracks = append(tracks, randomTrack(random))
			continue
		}
		tracks = append(tracks, later(tracks[random.Intn(len(tracks))], random.Int63n(3)))
	}
	return tracks
}

func TestOrdersOfRandomTracks(t *testing.T) {
	random := rand.New(rand.NewSource(9))
	for range 150 {
		c, tracks := randomCourse(random), randomTracks(random)
		reached := [][]int64{}
		for _, track := range tracks {
			reached = append(reached, expectedTimes(c, track))
		}
		for time := int64(-1); time < 90; time += 1 + random.Int63n(9) {
			want := []int64{}
			for k := range tracks {
				want = append(want, int64(k))
			}
			slices.SortStableFunc(want, func(a, b int64) int {
				counts := cmp.Compare(countUpTo(reached[b], time), countUpTo(reached[a], time))
				return cmp.Or(counts, cmp.Compare(lastUpTo(reached[a], time), lastUpTo(reached[b], time)))
			})
			if order, code := impl.OrderAt(c, tracks, time); code != impl.ErrNone || !slices.Equal(order, want) {
				t.Fatalf("OrderAt(%v, %v, %d) = %v, %d, want %v", c, tracks, time, order, code, want)
			}
		}
	}
}

func TestBoatsThatHaveReachedMoreAreAhead(t *testing.T) {
	random := rand.New(rand.NewSource(10))
	for range 100 {
		c, tracks := randomCourse(random), randomTracks(random)
		for _, time := range []int64{0, 5, 20, 60, 200} {
			order, code := impl.OrderAt(c, tracks, time)
			if code != impl.ErrNone || len(order) != len(tracks) {
				t.Fatalf("OrderAt(%v, %v, %d) = %v, %d", c, tracks, time, order, code)
			}
			seen := map[int64]bool{}
			for k, boat := range order {
				if boat < 0 || boat >= int64(len(tracks)) || seen[boat] {
					t.Fatalf("OrderAt(%v, %v, %d) = %v, which are not all boats", c, tracks, time, order)
				}
				seen[boat] = true
				before, _ := impl.ReachedAt(c, tracks[order[max(k, 1)-1]], time)
				if n, _ := impl.ReachedAt(c, tracks[boat], time); n > before {
					t.Fatalf("OrderAt(%v, %v, %d) = %v, but the boat %d has reached more than the one ahead of it", c, tracks, time, order, boat)
				}
			}
		}
	}
}

// In any sequence of the tracks, the boats that are not level come in the same order.
func TestTheOrderDoesNotDependOnTheNumbers(t *testing.T) {
	random := rand.New(rand.NewSource(11))
	for range 100 {
		c, tracks := randomCourse(random), randomTracks(random)
		turned := slices.Clone(tracks)
		slices.Reverse(turned)
		for _, time := range []int64{5, 20, 60} {
			order, code := impl.OrderAt(c, tracks, time)
			other, otherCode := impl.OrderAt(c, turned, time)
			if code != impl.ErrNone || otherCode != impl.ErrNone {
				t.Fatalf("OrderAt(%v, %v, %d): codes %d, %d", c, tracks, time, code, otherCode)
			}
			for k, boat := range order {
				times, _ := impl.TimesSailed(c, tracks[boat])
				otherTimes, _ := impl.TimesSailed(c, turned[other[k]])
				if countUpTo(times, time) != countUpTo(otherTimes, time) || lastUpTo(times, time) != lastUpTo(otherTimes, time) {
					t.Fatalf("OrderAt(%v, %v, %d) = %v, but %v in the opposite sequence", c, tracks, time, order, other)
				}
			}
		}
	}
}
