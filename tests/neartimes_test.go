package tests

import (
	"math/rand"
	"slices"
	"testing"

	"loop.example/g00887/impl"
)

// expectedToBeNear is for times at which both tracks last.
func expectedToBeNear(x impl.Watch, a, b impl.Track, time int64) bool {
	hulls := [2]impl.Hull{}
	for k, track := range []impl.Track{a, b} {
		h, code := expectedHullAt(track, time, x.Length)
		if code != impl.ErrNone || !hasAxis(h) {
			return false
		}
		hulls[k] = h
	}
	return leastReach(hulls[0], hulls[1]) <= x.Distance
}

func expectedNearTimes(x impl.Watch, a, b impl.Track) ([]int64, int64) {
	checks, code := expectedChecks(x, a, b)
	times := []int64{}
	for _, time := range checks {
		if expectedToBeNear(x, a, b, time) {
			times = append(times, time)
		}
	}
	return times, code
}

// checkNearTimes checks the near times of two tracks in both orders, and returns them with the code.
func checkNearTimes(t *testing.T, x impl.Watch, a, b impl.Track) ([]int64, int64) {
	t.Helper()
	want, wantCode := expectedNearTimes(x, a, b)
	for _, pair := range [][2]impl.Track{{a, b}, {b, a}} {
		if times, code := impl.NearTimes(x, pair[0], pair[1]); !slices.Equal(times, want) || code != wantCode {
			t.Fatalf("NearTimes(%v, %v, %v) = %v, %d, want %v, %d", x, pair[0], pair[1], times, code, want, wantCode)
		}
	}
	return want, wantCode
}

// goingNorth sails to the north, one decimetre each millisecond, from a point on.
func goingNorth(x, y, from, to int64) impl.Track { return trackOf(from, x, y, to, x, y+to-from) }

// reaching is the plain watch with another distance.
func reaching(distance int64) impl.Watch { return watchWith(plainWatch, 2, distance) }

// ofLength is the plain watch with another length.
func ofLength(length int64) impl.Watch { return watchWith(plainWatch, 0, length) }

func TestNearTimes(t *testing.T) {
	const m = impl.MaxCoord
	base := goingNorth(0, 0, 0, 50)
	all := []int64{0, 10, 20, 30, 40, 50}
	for _, row := range []struct {
		name string
		x    impl.Watch
		a, b impl.Track
		want []int64
	}{
		{"a track with itself", reaching(0), base, base, all},
		{"side by side, as far as the distance", reaching(10), base, goingNorth(10, 0, 0, 50), all},
		{"side by side, one farther than the distance", reaching(9), base, goingNorth(10, 0, 0, 50), nil},
		{"side by side, one nearer than the distance", reaching(11), base, goingNorth(-10, 0, 0, 50), all},
		{"side by side at the greatest distance", reaching(10000), base, goingNorth(10000, 9, 0, 50), all},
		{"side by side, one farther than the greatest distance", reaching(10000), base, goingNorth(-10001, 9, 0, 50), nil},
		{"in line, bow to stern", reaching(0), base, goingNorth(0, -30, 0, 50), all},
		{"in line, one apart", reaching(0), base, goingNorth(0, -31, 0, 50), nil},
		{"in line, one apart, with a distance of one", reaching(1), base, goingNorth(0, -31, 0, 50), all},
		{"in line, with longer hulls", ofLength(40), base, goingNorth(0, -50, 0, 50), all},
		{"in line, with hulls that are just too short", ofLength(39), base, goingNorth(0, -50, 0, 50), nil},
		{"in line, with the longest hulls", ofLength(1000), base, goingNorth(0, -1010, 0, 50), all},
		{"in line, one apart from the longest hulls", ofLength(1000), base, goingNorth(0, -1011, 0, 50), nil},
		{"aslant, by a root", reaching(5), base, goingNorth(3, -34, 0, 50), all},
		{"aslant, by a root that is less", reaching(4), base, goingNorth(3, -34, 0, 50), nil},
		{"only while both last", reaching(10), base, goingNorth(10, 15, 15, 99), []int64{20, 30, 40, 50}},
		{"only at one time", reaching(10), base, goingNorth(10, 45, 45, 55), []int64{50}},
		{"never together", reaching(10), base, goingNorth(10, 51, 51, 99), nil},
		{"together between two check times", reaching(10), base, goingNorth(10, 41, 41, 49), nil},
		{"overtaking", reaching(10), base, trackOf(0, 10, -90, 50, 10, 160), []int64{20, 30}},
		{"overtaking between two check times", reaching(10), goingNorth(0, 0, 0, 20), trackOf(0, 5, -500, 20, 5, 500), []int64{10}},
		{"overtaking between two check times, unseen", reaching(10), goingNorth(0, 0, 0, 10), trackOf(0, 5, -500, 10, 5, 500), nil},
		{"overtaking between two check times, with a shorter step", watchWith(reaching(10), 3, 5), goingNorth(0, 0, 0, 10), trackOf(0, 5, -500, 10, 5, 500), []int64{5}},
		{"without length from 20 to 39", reaching(10), base, trackOf(0, 10, 0, 20, 10, 20, 39, 10, 20, 50, 10, 50), []int64{0, 10, 40, 50}},
		{"without length from 20 to 40", reaching(10), base, trackOf(0, 10, 0, 20, 10, 20, 40, 10, 20, 50, 10, 50), []int64{0, 10, 40, 50}},
		{"without length from 20 to 41", reaching(10), base, trackOf(0, 10, 0, 20, 10, 20, 41, 10, 20, 50, 10, 50), []int64{0, 10, 50}},
		{"without length to the end", reaching(10), base, trackOf(0, 10, 0, 49, 10, 49, 50, 10, 49), []int64{0, 10, 20, 30, 40}},
		{"both without length", reaching(10), trackOf(0, 0, 0, 50, 0, 0), trackOf(0, 0, 0, 50, 0, 0), nil},
		{"first one without length", reaching(10), trackOf(0, 0, 0, 50, 0, 0), base, nil},
		{"a stern beyond the area to the south", reaching(10), goingNorth(0, -m, 0, 50), goingNorth(5, -m, 0, 50), []int64{30, 40, 50}},
		{"one stern beyond the area", reaching(10), goingNorth(0, 9-m, 0, 50), goingNorth(5, 1-m, 0, 50), []int64{30, 40, 50}},
		{"a stern just beyond the area", reaching(10), goingNorth(0, 19-m, 0, 50), goingNorth(5, 20-m, 0, 50), []int64{20, 30, 40, 50}},
		{"sterns that are the bows", ofLength(1), trackOf(0, 0, 0, 50, 3, 4), trackOf(0, 0, 0, 50, 3, 4), nil},
		{"sterns that are just not the bows", ofLength(2), trackOf(0, 0, 0, 50, 3, 4), trackOf(0, 0, 0, 50, 3, 4), all},
		{"one stern that is the bow", ofLength(1), trackOf(0, 0, 0, 50, 0, 5), trackOf(0, 0, 0, 50, 3, 4), nil},
		{"hulls of the length 1", ofLength(1), trackOf(0, 0, 0, 50, 0, 5), trackOf(0, 0, 0, 50, -3, 4), all},
	} {
		t.Run(row.name, func(t *testing.T) {
			if times, code := checkNearTimes(t, row.x, row.a, row.b); !slices.Equal(times, row.want) || code != impl.ErrNone {
				t.Errorf("NearTimes(%v, %v, %v) = %v, %d, want %v", row.x, row.a, row.b, times, code, row.want)
			}
		})
	}
}

// What a pair does at a check time.
const (
	apart     = 0
	near      = 1
	nearStill = 2
)

// pairThat has two tracks that sail to the north, with one check time of the plain watch for each element.
// The second one is then 10 or 900 decimetres to the east of the first one; or 10, but without a hull.
func pairThat(does []int) (impl.Track, impl.Track) {
	second := impl.Track{}
	for k, what := range does {
		time, x, way := int64(10*k), int64(10), int64(1)
		switch what {
		case apart:
			x = 900
		case nearStill:
			way = 0
		}
		second.Fixes = append(second.Fixes, impl.Fix{Time: time, X: x, Y: time}, impl.Fix{Time: time + 1, X: x, Y: time + way})
	}
	return goingNorth(0, 0, 0, lastTime(second)), second
}

// allThat a pair may do at n check times.
func allThat(n int) [][]int {
	all := [][]int{{}}
	for range n {
		more := [][]int{}
		for _, does := range all {
			for _, what := range []int{apart, near, nearStill} {
				more = append(more, append(slices.Clone(does), what))
			}
		}
		all = more
	}
	return all
}

func TestNearTimesOfAllThatAPairDoes(t *testing.T) {
	for n := 1; n <= 6; n++ {
		for _, does := range allThat(n) {
			a, b := pairThat(does)
			want := []int64{}
			for k, what := range does {
				if what == near {
					want = append(want, int64(10*k))
				}
			}
			for _, pair := range [][2]impl.Track{{a, b}, {b, a}} {
				if times, code := impl.NearTimes(plainWatch, pair[0], pair[1]); !slices.Equal(times, want) || code != impl.ErrNone {
					t.Fatalf("of a pair that does %v, NearTimes = %v, %d, want %v", does, times, code, want)
				}
			}
		}
	}
}

// The greatest number of check times, at each of which the boats are near.
func TestNearAtAllCheckTimes(t *testing.T) {
	const most = impl.MaxChecks
	for _, step := range []int64{1, 13, impl.MaxStep} {
		to := (most - 1) * step
		a, b := trackOf(0, 0, 0, to, 0, 99999), trackOf(0, 10, 0, to, 10, 99999, to+step, 10, 100000)
		if times, code := impl.NearTimes(stepping(step), a, b); !slices.Equal(times, multiples(step, 0, most-1)) || code != impl.ErrNone {
			t.Fatalf("with the step %d, NearTimes = %v, %d", step, times, code)
		}
		refuseTimes(t, stepping(step), b, b, impl.ErrLimit)
	}
}

// fleetOfWatched are tracks of which each two are near now and then: the points of the fixes are
// few and close to each other.
func fleetOfWatched(random *rand.Rand, n int) []impl.Track {
	tracks := []impl.Track{}
	for range n {
		track := impl.Track{}
		time, p := random.Int63n(20), randomPoint(random, 40)
		for range 2 + random.Intn(12) {
			track.Fixes = append(track.Fixes, impl.Fix{Time: time, X: p.X, Y: p.Y})
			time += 1 + random.Int63n(30)
			// Once in six times the leg has no length.
			if random.Intn(6) > 0 {
				p = randomPoint(random, 40)
			}
		}
		tracks = append(tracks, track)
	}
	return tracks
}

func randomWatch(random *rand.Rand) impl.Watch {
	return impl.Watch{Length: 1 + random.Int63n(12), Span: random.Int63n(12), Distance: random.Int63n(30), Step: 1 + random.Int63n(15)}
}

func TestNearTimesOfRandomTracks(t *testing.T) {
	random := rand.New(rand.NewSource(61))
	checked, found := 0, 0
	for range 600 {
		x, tracks := randomWatch(random), fleetOfWatched(random, 2)
		checks, _ := checkCheckTimes(t, x, tracks[0], tracks[1])
		times, _ := checkNearTimes(t, x, tracks[0], tracks[1])
		checked += len(checks)
		found += len(times)
	}
	if found < 1000 || checked-found < 1000 {
		t.Errorf("near at %d of %d check times", found, checked)
	}
}

// The times are those at which chapter 9 says that the hulls are near.
func TestNearTimesAreThoseOfNearHulls(t *testing.T) {
	random := rand.New(rand.NewSource(62))
	for range 300 {
		x, tracks := randomWatch(random), fleetOfWatched(random, 2)
		checks, _ := impl.CheckTimes(x, tracks[0], tracks[1])
		want := []int64{}
		for _, time := range checks {
			a, firstCode := impl.HullAt(tracks[0], time, x.Length)
			b, secondCode := impl.HullAt(tracks[1], time, x.Length)
			if is, code := impl.HullsNear(a, b, x.Distance); is && firstCode+secondCode+code == impl.ErrNone {
				want = append(want, time)
			}
		}
		if times, code := impl.NearTimes(x, tracks[0], tracks[1]); !slices.Equal(times, want) || code != impl.ErrNone {
			t.Fatalf("NearTimes(%v, %v, %v) = %v, %d, want %v", x, tracks[0], tracks[1], times, code, want)
		}
	}
}

// The span does not count for the near times.
func TestNearTimesInAllWatches(t *testing.T) {
	a, b := trackOf(50, 0, 0, 300, 0, 5000, 400, 700, 5000), trackOf(0, -900, 0, 200, 900, 5000, 449, 0, 5000)
	for _, x := range validWatches() {
		checkNearTimes(t, x, a, b)
	}
}
