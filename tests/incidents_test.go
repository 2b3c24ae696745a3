package tests

import (
	"math/rand"
	"slices"
	"testing"

	"loop.example/g00887/impl"
)

// expectedIncident has the ruling on two tracks with the numbers of their boats.
func expectedIncident(w impl.Wind, x impl.Watch, tracks []impl.Track, first, second int, time int64) impl.Incident {
	incident := impl.Incident{Time: time, First: int64(first), Second: int64(second), Keeper: -1, Reason: impl.ReasonUnclear}
	ruling, code := expectedRuleAt(w, tracks[first], tracks[second], time, x.Length, x.Span)
	if code == impl.ErrNone && ruling.Keeper != 0 {
		incident.Keeper = [3]int64{1: int64(first), 2: int64(second)}[ruling.Keeper]
		incident.Reason = ruling.Reason
	}
	return incident
}

// expectedIncidents are those of the boats with two numbers. It looks at each check time whether the
// boats were near before.
func expectedIncidents(w impl.Wind, x impl.Watch, tracks []impl.Track, first, second int) ([]impl.Incident, int64) {
	checks, code := expectedChecks(x, tracks[first], tracks[second])
	list, were := []impl.Incident{}, false
	for _, time := range checks {
		are := expectedToBeNear(x, tracks[first], tracks[second], time)
		if are && !were {
			list = append(list, expectedIncident(w, x, tracks, first, second, time))
		}
		were = are
	}
	return list, code
}

// incidentOf is one of the boats 0 and 1.
func incidentOf(time, keeper, reason int64) impl.Incident {
	return impl.Incident{Time: time, First: 0, Second: 1, Keeper: keeper, Reason: reason}
}

func unclearAt(time int64) impl.Incident { return incidentOf(time, -1, impl.ReasonUnclear) }

// exchangedIncidents are those of the boats 0 and 1 in the other order.
func exchangedIncidents(list []impl.Incident) []impl.Incident {
	list = slices.Clone(list)
	for k := range list {
		if list[k].Keeper != -1 {
			list[k].Keeper = 1 - list[k].Keeper
		}
	}
	return list
}

func incidentsOf(t *testing.T, w impl.Wind, x impl.Watch, a, b impl.Track) []impl.Incident {
	t.Helper()
	list, code := impl.IncidentsOf(w, x, a, b)
	if code != impl.ErrNone {
		t.Fatalf("IncidentsOf(%v, %v, %v, %v): code %d", w, x, a, b, code)
	}
	return list
}

func refuseIncidents(t *testing.T, w impl.Wind, x impl.Watch, a, b impl.Track, want int64) {
	t.Helper()
	for _, pair := range [][2]impl.Track{{a, b}, {b, a}} {
		if list, code := impl.IncidentsOf(w, x, pair[0], pair[1]); len(list) != 0 || code != want {
			t.Fatalf("IncidentsOf(%v, %v, %v, %v) = %v, %d, want the code %d", w, x, pair[0], pair[1], list, code, want)
		}
	}
}

// checkPartings checks the promise: between two incidents there is a check time at which the boats are
// not near; and each incident is a near time that has a text.
func checkPartings(t *testing.T, x impl.Watch, a, b impl.Track, list []impl.Incident) {
	t.Helper()
	checks, _ := impl.CheckTimes(x, a, b)
	times, _ := impl.NearTimes(x, a, b)
	for k, incident := range list {
		if !slices.Contains(times, incident.Time) {
			t.Fatalf("at %v, %v and %v are not near", incident, a, b)
		}
		if read, ok := impl.ReadIncident(impl.IncidentText(incident)); !ok || read != incident {
			t.Fatalf("of the text of %v, %v is read, %v", incident, read, ok)
		}
		partings := slices.DeleteFunc(slices.Clone(checks), func(time int64) bool {
			return k == 0 || time <= list[k-1].Time || time >= incident.Time || slices.Contains(times, time)
		})
		if k > 0 && len(partings) == 0 {
			t.Fatalf("between %v and %v, %v and %v do not part", list[k-1], incident, a, b)
		}
	}
	if len(times) > 0 && (len(list) == 0 || list[0].Time != times[0]) {
		t.Fatalf("%v and %v are near at %d, but their incidents are %v", a, b, times[0], list)
	}
}

// checkIncidents checks the incidents of two tracks in both orders, and the promise, and returns them.
func checkIncidents(t *testing.T, w impl.Wind, x impl.Watch, a, b impl.Track) []impl.Incident {
	t.Helper()
	list, back := incidentsOf(t, w, x, a, b), incidentsOf(t, w, x, b, a)
	if want, _ := expectedIncidents(w, x, []impl.Track{a, b}, 0, 1); !slices.Equal(list, want) {
		t.Fatalf("IncidentsOf(%v, %v, %v, %v) = %v, want %v", w, x, a, b, list, want)
	}
	if !slices.Equal(back, exchangedIncidents(list)) {
		t.Fatalf("IncidentsOf(%v, %v, %v, %v) = %v, but exchanged %v", w, x, a, b, list, back)
	}
	checkPartings(t, x, a, b, list)
	return list
}

// moving sails from a point on with the same way in each millisecond.
func moving(x, y int64, way impl.Point, from, to int64) impl.Track {
	return trackOf(from, x, y, to, x+way.X*(to-from), y+way.Y*(to-from))
}

// spanning is the plain watch with another span.
func spanning(span int64) impl.Watch { return watchWith(plainWatch, 1, span) }

// The boats are near from the first check time on: the ruling is that of this time.
func TestKeepersOfIncidents(t *testing.T) {
	port, starboard := moving(0, 0, portUp, 0, 50), moving(5, 0, starboardUp, 0, 50)
	// It tacks to starboard at 10, and sails near to the track port until then.
	tacking := trackOf(0, 5, 0, 10, 35, 40, 50, -85, 200)
	for _, row := range []struct {
		name string
		x    impl.Watch
		a, b impl.Track
		want impl.Incident
	}{
		{"on opposite tacks", plainWatch, port, starboard, incidentOf(0, 0, impl.ReasonOpposite)},
		{"on opposite tacks, exchanged", plainWatch, starboard, port, incidentOf(0, 1, impl.ReasonOpposite)},
		{"the second one astern", plainWatch, port, moving(-21, -28, portUp, 0, 50), incidentOf(0, 1, impl.ReasonAstern)},
		{"the first one astern", plainWatch, port, moving(21, 28, portUp, 0, 50), incidentOf(0, 0, impl.ReasonAstern)},
		{"not astern of a longer boat", ofLength(35), port, moving(-21, -28, portUp, 0, 50), incidentOf(0, 0, impl.ReasonWindward)},
		{"the first one to windward", plainWatch, port, moving(8, -6, portUp, 0, 50), incidentOf(0, 0, impl.ReasonWindward)},
		{"the second one to windward", plainWatch, port, moving(-8, 6, portUp, 0, 50), incidentOf(0, 1, impl.ReasonWindward)},
		{"the first one turning", spanning(10), tacking, port, incidentOf(0, 0, impl.ReasonTurning)},
		{"the second one turning", spanning(10), port, tacking, incidentOf(0, 1, impl.ReasonTurning)},
		{"not turning yet", spanning(9), port, tacking, unclearAt(0)},
		{"level", plainWatch, port, moving(8, 0, portUp, 0, 50), unclearAt(0)},
		{"on no tack", plainWatch, port, moving(8, 0, straightUp, 0, 50), unclearAt(0)},
		{"none on a tack", plainWatch, goingNorth(0, 0, 0, 50), goingNorth(5, -6, 0, 50), unclearAt(0)},
		{"both turning", spanning(10), tacking, tacking, unclearAt(0)},
		{"a track with itself", plainWatch, port, port, unclearAt(0)},
		{"sailing away from each other", plainWatch, moving(0, 0, impl.Point{X: 1, Y: 50}, 0, 50), moving(0, -70, impl.Point{X: 1, Y: -50}, 0, 50), unclearAt(0)},
	} {
		t.Run(row.name, func(t *testing.T) {
			list := checkIncidents(t, toSouth, row.x, row.a, row.b)
			if len(list) == 0 || list[0] != row.want {
				t.Errorf("IncidentsOf(%v, %v, %v, %v) = %v, want %v", toSouth, row.x, row.a, row.b, list, row.want)
			}
		})
	}
}

func TestIncidentsOf(t *testing.T) {
	base := goingNorth(0, 0, 0, 60)
	// In a wind toward the east the boat at the west is to windward.
	first, second := func(time int64) impl.Incident { return incidentOf(time, 0, impl.ReasonWindward) }, func(time int64) impl.Incident { return incidentOf(time, 1, impl.ReasonWindward) }
	for _, row := range []struct {
		name string
		x    impl.Watch
		a, b impl.Track
		want []impl.Incident
	}{
		{"near all the time", plainWatch, base, goingNorth(10, 0, 0, 60), []impl.Incident{first(0)}},
		{"near all the time, on the other side", plainWatch, base, goingNorth(-10, 0, 0, 60), []impl.Incident{second(0)}},
		{"never near", plainWatch, base, goingNorth(11, 0, 0, 60), nil},
		{"never together", plainWatch, base, goingNorth(10, 61, 61, 90), nil},
		{"together between two check times", plainWatch, base, goingNorth(10, 51, 51, 59), nil},
		{"together from 21 on", plainWatch, base, goingNorth(10, 21, 21, 90), []impl.Incident{first(30)}},
		{"together at 60 only", plainWatch, base, goingNorth(10, 60, 60, 90), []impl.Incident{first(60)}},
		{"near from 20 to 30", plainWatch, base, trackOf(0, 10, -90, 60, 10, 210), []impl.Incident{incidentOf(20, 0, impl.ReasonWindward)}},
		{"near from 20 to 30, looked at each 20", stepping(20), base, trackOf(0, 10, -90, 60, 10, 210), []impl.Incident{first(20)}},
		{"near from 20 to 30, looked at each 30", stepping(30), base, trackOf(0, 10, -90, 60, 10, 210), []impl.Incident{first(30)}},
		{"near from 20 to 30, looked at each 40", stepping(40), base, trackOf(0, 10, -90, 60, 10, 210), nil},
		{"the other one leads at first", stepping(20), base, trackOf(0, -9, 0, 15, -9, 15, 20, 9, 20, 60, 9, 60), []impl.Incident{second(0)}},
		{"near, apart for one step, and near on the other side", plainWatch, base, trackOf(0, -9, 0, 19, -9, 19, 20, 900, 20, 21, 900, 21, 29, 9, 29, 60, 9, 60), []impl.Incident{second(0), first(30)}},
		{"apart for less than a step", plainWatch, base, trackOf(0, 9, 0, 11, 9, 11, 15, 900, 15, 19, 9, 19, 60, 9, 60), []impl.Incident{first(0)}},
		{"without a hull at one check time", plainWatch, base, trackOf(0, 9, 0, 29, 9, 29, 39, 9, 29, 60, 9, 60), []impl.Incident{first(0), first(40)}},
		{"without a hull between two check times", plainWatch, base, trackOf(0, 9, 0, 31, 9, 31, 39, 9, 31, 60, 9, 60), []impl.Incident{first(0)}},
		{"without a hull at the first check times", plainWatch, base, trackOf(0, 9, 20, 15, 9, 20, 60, 9, 65), []impl.Incident{first(20)}},
		{"a stern beyond the area at first", plainWatch, goingNorth(0, -impl.MaxCoord, 0, 60), goingNorth(9, -impl.MaxCoord, 0, 60), []impl.Incident{first(30)}},
	} {
		t.Run(row.name, func(t *testing.T) {
			if list := checkIncidents(t, toEast, row.x, row.a, row.b); !slices.Equal(list, row.want) {
				t.Errorf("IncidentsOf(%v, %v, %v, %v) = %v, want %v", toEast, row.x, row.a, row.b, list, row.want)
			}
			if list := checkIncidents(t, toEast, row.x, row.b, row.a); !slices.Equal(list, exchangedIncidents(row.want)) {
				t.Errorf("exchanged, IncidentsOf is %v", list)
			}
		})
	}
}

func TestIncidentsOfAllThatAPairDoes(t *testing.T) {
	for n := 1; n <= 6; n++ {
		for _, does := range allThat(n) {
			a, b := pairThat(does)
			want := []impl.Incident{}
			for k, what := range does {
				if what == near && (k == 0 || does[k-1] != near) {
					want = append(want, incidentOf(int64(10*k), 0, impl.ReasonWindward))
				}
			}
			if list := incidentsOf(t, toEast, plainWatch, a, b); !slices.Equal(list, want) {
				t.Fatalf("of a pair that does %v, IncidentsOf is %v, want %v", does, list, want)
			}
			if list := incidentsOf(t, toEast, plainWatch, b, a); !slices.Equal(list, exchangedIncidents(want)) {
				t.Fatalf("of a pair that does %v, exchanged, IncidentsOf is %v, want %v", does, list, exchangedIncidents(want))
			}
		}
	}
}

// One pair may have incidents with several keepers and reasons. Here the boats meet at 20, 40 and 60,
// and make their manoeuvres 2 before or after it.
func TestIncidentsWithSeveralReasons(t *testing.T) {
	a := trackOf(0, 0, 0, 18, -6, -8, 22, 6, 8, 38, 906, -8, 42, 894, 8, 58, -6, -8, 62, 6, 8)
	b := trackOf(0, 9000, 9000, 18, 11, -8, 22, -1, 8, 30, 9000, 9000, 38, 898, -14, 42, 886, 2, 50, 9000, 9000, 58, -27, -36, 62, -15, -20)
	want := []impl.Incident{incidentOf(20, 0, impl.ReasonOpposite), incidentOf(40, 0, impl.ReasonWindward), incidentOf(60, 1, impl.ReasonAstern)}
	for span := range int64(2) {
		if list := checkIncidents(t, toSouth, spanning(span), a, b); !slices.Equal(list, want) {
			t.Errorf("with the span %d, IncidentsOf = %v, want %v", span, list, want)
		}
	}
	if list := checkIncidents(t, toSouth, spanning(2), a, b); !slices.Equal(list, []impl.Incident{unclearAt(20), unclearAt(40), unclearAt(60)}) {
		t.Errorf("while both are turning, IncidentsOf = %v", list)
	}
}

func TestIncidentsOfRandomTracks(t *testing.T) {
	random := rand.New(rand.NewSource(63))
	counts, several := map[impl.Ruling]int{}, 0
	for k := range 2500 {
		w, x, tracks := randomWind(random, []int64{1, 4, impl.MaxWind}[k%3]), randomWatch(random), fleetOfWatched(random, 2)
		list := checkIncidents(t, w, x, tracks[0], tracks[1])
		for _, incident := range list {
			counts[impl.Ruling{Keeper: incident.Keeper, Reason: incident.Reason}]++
			// At an incident both tracks last and have hulls, so that there is a ruling.
			if r, code := impl.RuleAt(w, tracks[0], tracks[1], incident.Time, x.Length, x.Span); code != impl.ErrNone || (r == unclear) != (incident.Keeper == -1) {
				t.Fatalf("at %v, RuleAt is %v, %d", incident, r, code)
			}
		}
		if len(list) > 2 {
			several++
		}
	}
	for _, reason := range []int64{impl.ReasonTurning, impl.ReasonOpposite, impl.ReasonAstern, impl.ReasonWindward} {
		for keeper := range int64(2) {
			if counts[impl.Ruling{Keeper: keeper, Reason: reason}] < 20 {
				t.Errorf("incidents: %v", counts)
			}
		}
	}
	if counts[impl.Ruling{Keeper: -1, Reason: impl.ReasonUnclear}] < 100 || len(counts) != 9 || several < 100 {
		t.Errorf("incidents: %v, and more than two of %d pairs", counts, several)
	}
}

// The greatest number of incidents of a pair: the boats are near at each second check time.
func TestTheGreatestNumberOfIncidents(t *testing.T) {
	does := []int{}
	for k := range impl.MaxFixes / 2 {
		does = append(does, 1-k%2)
	}
	a, b := pairThat(does)
	list := checkIncidents(t, toEast, plainWatch, a, b)
	if len(list) != impl.MaxFixes/4 {
		t.Errorf("IncidentsOf = %v", list)
	}
	for k, incident := range list {
		if incident != incidentOf(int64(20*k), 0, impl.ReasonWindward) {
			t.Errorf("the incident %d is %v", k, incident)
		}
	}
}

func TestIncidentsOfTooManyCheckTimes(t *testing.T) {
	still, away := trackOf(0, 0, 0, impl.MaxChecks, 0, 0), trackOf(0, 90000, 0, impl.MaxChecks, 90000, 90)
	for _, a := range []impl.Track{still, away, lasting(0, impl.MaxChecks), lasting(0, impl.MaxTime)} {
		for _, b := range []impl.Track{still, away, lasting(0, impl.MaxChecks)} {
			refuseIncidents(t, toEast, stepping(1), a, b, impl.ErrLimit)
			checkIncidents(t, toEast, stepping(2), a, b)
		}
		checkIncidents(t, toEast, stepping(1), a, lasting(0, impl.MaxChecks-1))
		checkIncidents(t, toEast, stepping(1), a, lasting(1, impl.MaxChecks))
	}
}

func TestIncidentsInAllWatchesAndWinds(t *testing.T) {
	a, b := trackOf(50, 0, 0, 300, 300, 400, 400, 0, 800), trackOf(0, 5, -100, 200, 5, 300, 449, 40, 800)
	for k, x := range validWatches() {
		checkIncidents(t, validWinds()[k%len(validWinds())], x, a, b)
	}
	for _, w := range validWinds() {
		if list := checkIncidents(t, w, plainWatch, a, b); len(list) == 0 {
			t.Fatalf("in the wind %v there are no incidents", w)
		}
	}
}
