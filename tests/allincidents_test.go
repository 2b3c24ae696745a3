package tests

import (
	"cmp"
	"math/rand"
	"slices"
	"testing"

	"loop.example/g00887/impl"
)

// expectedAll puts the incidents of one pair behind those of the other ones, and then in the order of
// their times without changing that of those at one time.
func expectedAll(w impl.Wind, x impl.Watch, tracks []impl.Track) ([]impl.Incident, int64) {
	all := []impl.Incident{}
	for first := range tracks {
		for second := first + 1; second < len(tracks); second++ {
			list, code := expectedIncidents(w, x, tracks, first, second)
			if code != impl.ErrNone {
				return nil, code
			}
			all = append(all, list...)
		}
	}
	slices.SortStableFunc(all, func(a, b impl.Incident) int { return cmp.Compare(a.Time, b.Time) })
	return all, impl.ErrNone
}

func allIncidents(t *testing.T, w impl.Wind, x impl.Watch, tracks []impl.Track) []impl.Incident {
	t.Helper()
	list, code := impl.AllIncidents(w, x, tracks)
	if code != impl.ErrNone {
		t.Fatalf("AllIncidents(%v, %v, %v): code %d", w, x, tracks, code)
	}
	return list
}

func refuseAll(t *testing.T, w impl.Wind, x impl.Watch, tracks []impl.Track, want int64) {
	t.Helper()
	if list, code := impl.AllIncidents(w, x, tracks); len(list) != 0 || code != want {
		t.Fatalf("AllIncidents(%v, %v, %v) = %v, %d, want the code %d", w, x, tracks, list, code, want)
	}
}

// ofPair are the incidents of two boats in a list, as if they had the numbers 0 and 1.
func ofPair(list []impl.Incident, first, second int) []impl.Incident {
	pair := []impl.Incident{}
	for _, incident := range list {
		if incident.First == int64(first) && incident.Second == int64(second) {
			keeper := slices.Index([]int64{incident.First, incident.Second}, incident.Keeper)
			pair = append(pair, incidentOf(incident.Time, int64(keeper), incident.Reason))
		}
	}
	return pair
}

// checkAll checks all incidents, their order, and the promise, and returns them.
func checkAll(t *testing.T, w impl.Wind, x impl.Watch, tracks []impl.Track) []impl.Incident {
	t.Helper()
	list := allIncidents(t, w, x, tracks)
	if want, _ := expectedAll(w, x, tracks); !slices.Equal(list, want) {
		t.Fatalf("AllIncidents(%v, %v, %v) = %v, want %v", w, x, tracks, list, want)
	}
	for k := range list {
		if k > 0 && slices.Compare([]int64{list[k-1].Time, list[k-1].First, list[k-1].Second}, []int64{list[k].Time, list[k].First, list[k].Second}) >= 0 {
			t.Fatalf("AllIncidents(%v, %v, %v) = %v is not in order", w, x, tracks, list)
		}
	}
	found := 0
	for second := range tracks {
		for first := range second {
			pair := incidentsOf(t, w, x, tracks[first], tracks[second])
			if !slices.Equal(ofPair(list, first, second), pair) {
				t.Fatalf("AllIncidents(%v, %v, %v) = %v, but those of %d and %d are %v", w, x, tracks, list, first, second, pair)
			}
			checkPartings(t, x, tracks[first], tracks[second], pair)
			found += len(pair)
		}
	}
	if found != len(list) {
		t.Fatalf("AllIncidents(%v, %v, %v) = %v has more than the %d of its pairs", w, x, tracks, list, found)
	}
	return list
}

// windwardOn is an incident of two boats in which the one to windward keeps clear.
func windwardOn(time, first, second, keeper int64) impl.Incident {
	return impl.Incident{Time: time, First: first, Second: second, Keeper: keeper, Reason: impl.ReasonWindward}
}

// abreastFrom are tracks to the north, each from a time on, and each 10 decimetres to the east of the
// one before it.
func abreastFrom(times ...int64) []impl.Track {
	tracks := []impl.Track{}
	for k, time := range times {
		tracks = append(tracks, goingNorth(int64(10*k), time, time, 100))
	}
	return tracks
}

func TestAllIncidents(t *testing.T) {
	away := goingNorth(5000, 0, 0, 100)
	for _, row := range []struct {
		name     string
		distance int64
		tracks   []impl.Track
		want     []impl.Incident
	}{
		{"no track", 10, nil, nil},
		{"an empty list", 10, []impl.Track{}, nil},
		{"one track", 10, []impl.Track{away}, nil},
		{"two tracks", 10, abreastFrom(0, 0), []impl.Incident{windwardOn(0, 0, 1, 0)}},
		{"two tracks from another time on", 10, abreastFrom(0, 11), []impl.Incident{windwardOn(20, 0, 1, 0)}},
		{"two tracks that are too far apart", 9, abreastFrom(0, 0), nil},
		{"three tracks", 10, abreastFrom(0, 0, 0), []impl.Incident{windwardOn(0, 0, 1, 0), windwardOn(0, 1, 2, 1)}},
		{"three tracks, all near to each other", 20, abreastFrom(0, 0, 0), []impl.Incident{windwardOn(0, 0, 1, 0), windwardOn(0, 0, 2, 0), windwardOn(0, 1, 2, 1)}},
		{"three tracks, the last pair first", 10, abreastFrom(30, 10, 0), []impl.Incident{windwardOn(10, 1, 2, 1), windwardOn(30, 0, 1, 0)}},
		{"three tracks, the first pair first", 10, abreastFrom(0, 10, 30), []impl.Incident{windwardOn(10, 0, 1, 0), windwardOn(30, 1, 2, 1)}},
		{"three tracks, the middle pair first", 20, abreastFrom(0, 50, 0), []impl.Incident{windwardOn(0, 0, 2, 0), windwardOn(50, 0, 1, 0), windwardOn(50, 1, 2, 1)}},
		{"three tracks, one of them away", 10, append(abreastFrom(0, 0), away), []impl.Incident{windwardOn(0, 0, 1, 0)}},
		{"three tracks, the first one away", 10, append([]impl.Track{away}, abreastFrom(0, 0)...), []impl.Incident{windwardOn(0, 1, 2, 1)}},
		{"the second one to windward", 10, []impl.Track{goingNorth(9, 0, 0, 100), away, goingNorth(0, 0, 0, 100)}, []impl.Incident{windwardOn(0, 0, 2, 2)}},
		{"the same track three times", 0, slices.Repeat([]impl.Track{away}, 3), []impl.Incident{
			{Time: 0, First: 0, Second: 1, Keeper: -1, Reason: impl.ReasonUnclear}, {Time: 0, First: 0, Second: 2, Keeper: -1, Reason: impl.ReasonUnclear}, {Time: 0, First: 1, Second: 2, Keeper: -1, Reason: impl.ReasonUnclear},
		}},
		{"four tracks, two pairs at the same time", 10, []impl.Track{goingNorth(0, 0, 0, 90), goingNorth(7000, 0, 0, 90), goingNorth(7, 0, 0, 90), goingNorth(6990, 0, 0, 90)}, []impl.Incident{windwardOn(0, 0, 2, 0), windwardOn(0, 1, 3, 3)}},
		{"four tracks, two pairs at different times", 10, []impl.Track{goingNorth(0, 40, 40, 90), goingNorth(7000, 0, 0, 90), goingNorth(7, 0, 0, 90), goingNorth(6990, 0, 0, 90)}, []impl.Incident{windwardOn(0, 1, 3, 3), windwardOn(40, 0, 2, 0)}},
	} {
		t.Run(row.name, func(t *testing.T) {
			if list := checkAll(t, toEast, reaching(row.distance), row.tracks); !slices.Equal(list, row.want) {
				t.Errorf("AllIncidents(%v, .., %v) = %v, want %v", toEast, row.tracks, list, row.want)
			}
		})
	}
}

func TestAllIncidentsOfTwoTracksAreThoseOfThePair(t *testing.T) {
	random := rand.New(rand.NewSource(64))
	found := 0
	for range 500 {
		w, x, tracks := randomWind(random, 5), randomWatch(random), fleetOfWatched(random, 2)
		list := incidentsOf(t, w, x, tracks[0], tracks[1])
		if all := allIncidents(t, w, x, tracks); !slices.Equal(all, list) {
			t.Fatalf("AllIncidents(%v, %v, %v) = %v, but IncidentsOf is %v", w, x, tracks, all, list)
		}
		found += len(list)
	}
	if found < 300 {
		t.Errorf("only %d incidents", found)
	}
}

func TestAllIncidentsOfEachNumberOfTracks(t *testing.T) {
	for n := range impl.MaxBoats + 1 {
		tracks := abreastFrom(make([]int64, n)...)
		// All are near to each other; or each one is to those beside it.
		for _, reach := range []int64{impl.MaxNear, 10} {
			want := []impl.Incident{}
			for first := range int64(n) {
				for second := first + 1; second < int64(n); second++ {
					if 10*(second-first) <= reach {
						want = append(want, windwardOn(0, first, second, first))
					}
				}
			}
			if list := checkAll(t, toEast, reaching(reach), tracks); !slices.Equal(list, want) {
				t.Fatalf("of %d tracks, AllIncidents is %v, want %v", n, list, want)
			}
			slices.Reverse(tracks)
			for k := range want {
				want[k].Keeper = want[k].Second
			}
			if list := checkAll(t, toEast, reaching(reach), tracks); !slices.Equal(list, want) {
				t.Fatalf("of %d tracks in the other order, AllIncidents is %v, want %v", n, list, want)
			}
			slices.Reverse(tracks)
		}
	}
	for n := impl.MaxBoats + 1; n < 3*impl.MaxBoats; n++ {
		refuseAll(t, toEast, plainWatch, abreastFrom(make([]int64, n)...), impl.ErrLimit)
	}
}

// Each two of the greatest number of boats are near now and then, many of them at the same times.
func TestAllIncidentsOfRandomFleets(t *testing.T) {
	random := rand.New(rand.NewSource(65))
	most, keepers := 0, map[int64]int{}
	for range 60 {
		list := checkAll(t, randomWind(random, 5), randomWatch(random), fleetOfWatched(random, random.Intn(impl.MaxBoats+1)))
		most = max(most, len(list))
		for _, incident := range list {
			keepers[incident.Keeper]++
		}
	}
	if most < 150 || len(keepers) != impl.MaxBoats+1 {
		t.Errorf("at most %d incidents, with the keepers %v", most, keepers)
	}
}

// The tracks are put in another order: the incidents are the same ones, with other numbers.
func TestAllIncidentsDoNotDependOnTheOrder(t *testing.T) {
	random := rand.New(rand.NewSource(66))
	found := 0
	for range 300 {
		w, x, tracks := randomWind(random, 5), randomWatch(random), fleetOfWatched(random, 2+random.Intn(7))
		order := random.Perm(len(tracks))
		shuffled := make([]impl.Track, len(tracks))
		for k, place := range order {
			shuffled[place] = tracks[k]
		}
		list, other := allIncidents(t, w, x, tracks), allIncidents(t, w, x, shuffled)
		if len(other) != len(list) {
			t.Fatalf("AllIncidents has %d elements, and in another order %d", len(list), len(other))
		}
		found += len(list)
		for _, incident := range list {
			incident.First, incident.Second = int64(order[incident.First]), int64(order[incident.Second])
			if incident.Keeper != -1 {
				incident.Keeper = int64(order[incident.Keeper])
			}
			if incident.First > incident.Second {
				incident.First, incident.Second = incident.Second, incident.First
			}
			if !slices.Contains(other, incident) {
				t.Fatalf("AllIncidents(%v, %v, %v) = %v, but of %v it is %v", w, x, tracks, list, shuffled, other)
			}
		}
	}
	if found < 2000 {
		t.Errorf("only %d incidents", found)
	}
}

// Two of the tracks have one check time too many, and each of the other pairs has a few.
func TestOnePairWithTooManyCheckTimes(t *testing.T) {
	for second := range impl.MaxBoats {
		for first := range second {
			tracks := slices.Repeat([]impl.Track{lasting(0, 5)}, impl.MaxBoats)
			tracks[first], tracks[second] = lasting(0, impl.MaxChecks), lasting(0, impl.MaxTime)
			refuseAll(t, toEast, stepping(1), tracks, impl.ErrLimit)
			refuseAll(t, toEast, stepping(1), []impl.Track{tracks[first], tracks[second]}, impl.ErrLimit)
			bad := slices.Clone(tracks)
			bad[(first+5)%impl.MaxBoats] = trackOf(5, 0, 0, 5, 1, 1)
			refuseAll(t, toEast, stepping(1), bad, impl.ErrInvalid)
			refuseAll(t, impl.Wind{}, stepping(1), tracks, impl.ErrInvalid)
			// Both have one less together, if one of them begins later.
			tracks[first] = lasting(1, impl.MaxChecks)
			if first == 0 {
				checkAll(t, toEast, stepping(1), tracks)
			}
			if _, code := impl.AllIncidents(toEast, stepping(1), tracks); code != impl.ErrNone {
				t.Fatalf("of %v, AllIncidents has the code %d", tracks, code)
			}
			tracks[first], tracks[second] = lasting(0, impl.MaxChecks), lasting(1, impl.MaxTime)
			if _, code := impl.AllIncidents(toEast, stepping(1), tracks); code != impl.ErrNone {
				t.Fatalf("of %v, AllIncidents has the code %d", tracks, code)
			}
		}
	}
	// One track alone may last as long as it can.
	checkAll(t, toEast, stepping(1), []impl.Track{lasting(0, impl.MaxTime)})
}

// The greatest numbers of boats and of check times.
func TestAllIncidentsOfTheGreatestFleet(t *testing.T) {
	random := rand.New(rand.NewSource(67))
	tracks := []impl.Track{}
	for range impl.MaxBoats {
		track := impl.Track{}
		for k := range int64(impl.MaxFixes) {
			p := randomPoint(random, 60)
			track.Fixes = append(track.Fixes, impl.Fix{Time: k * 10, X: p.X, Y: p.Y})
		}
		track.Fixes[impl.MaxFixes-1].Time = impl.MaxChecks - 1
		tracks = append(tracks, track)
	}
	if list := checkAll(t, toEast, stepping(1), tracks); len(list) < 1000 {
		t.Errorf("only %d incidents", len(list))
	}
}
