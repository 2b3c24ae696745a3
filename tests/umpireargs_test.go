package tests

import (
	"slices"
	"testing"

	"loop.example/g00887/impl"
)

// refuseWatched checks that all functions with a watch return ErrInvalid for a good wind, in both
// orders, and nothing beside it.
func refuseWatched(t *testing.T, x impl.Watch, a, b impl.Track) {
	t.Helper()
	refuseTimes(t, x, a, b, impl.ErrInvalid)
	refuseIncidentsIn(t, toEast, x, a, b)
}

// refuseIncidentsIn checks that the functions with a wind do.
func refuseIncidentsIn(t *testing.T, w impl.Wind, x impl.Watch, a, b impl.Track) {
	t.Helper()
	refuseIncidents(t, w, x, a, b, impl.ErrInvalid)
	for _, tracks := range [][]impl.Track{{a, b}, {b, a}, {a, a, b}, {a, b, a}} {
		refuseAll(t, w, x, tracks, impl.ErrInvalid)
	}
}

// tracksToWatch are valid. Some last so long that there are too many check times.
func tracksToWatch() []impl.Track {
	return []impl.Track{goingNorth(0, 0, 0, 60), stay(impl.Point{}), later(goingNorth(0, 0, 0, 60), 100), lasting(0, impl.MaxTime)}
}

// The watch counts even if there is no track.
func TestInvalidWatches(t *testing.T) {
	for _, x := range invalidWatches() {
		for _, a := range tracksToWatch() {
			refuseWatched(t, x, a, lasting(0, impl.MaxTime))
			refuseWatched(t, x, a, impl.Track{})
			refuseAll(t, toEast, x, []impl.Track{a}, impl.ErrInvalid)
			refuseAll(t, impl.Wind{}, x, []impl.Track{a}, impl.ErrInvalid)
		}
		refuseAll(t, toEast, x, nil, impl.ErrInvalid)
		refuseAll(t, toEast, x, slices.Repeat([]impl.Track{goingNorth(0, 0, 0, 60)}, impl.MaxBoats), impl.ErrInvalid)
	}
}

// So does the wind.
func TestIncidentsInInvalidWinds(t *testing.T) {
	for _, w := range invalidWinds() {
		for _, x := range []impl.Watch{plainWatch, stepping(1), {}} {
			for _, a := range append(tracksToWatch(), impl.Track{}) {
				refuseIncidentsIn(t, w, x, a, lasting(0, impl.MaxTime))
				refuseAll(t, w, x, []impl.Track{a}, impl.ErrInvalid)
			}
			refuseAll(t, w, x, nil, impl.ErrInvalid)
			refuseAll(t, w, x, []impl.Track{}, impl.ErrInvalid)
		}
	}
}

func TestInvalidTracksThatAreWatched(t *testing.T) {
	full := slices.Repeat([]impl.Track{goingNorth(0, 0, 0, 60)}, impl.MaxBoats)
	for k, bad := range invalidTracks() {
		for _, good := range append(tracksToWatch(), bad) {
			refuseWatched(t, plainWatch, bad, good)
			refuseWatched(t, stepping(1), bad, good)
			refuseWatched(t, impl.Watch{}, bad, good)
		}
		refuseAll(t, toEast, plainWatch, []impl.Track{bad}, impl.ErrInvalid)
		tracks := slices.Clone(full)
		tracks[k%impl.MaxBoats] = bad
		refuseAll(t, toEast, plainWatch, tracks, impl.ErrInvalid)
	}
}

// ErrLimit for the number of tracks comes ahead of all others.
func TestTooManyTracksToWatch(t *testing.T) {
	for _, n := range []int{impl.MaxBoats + 1, impl.MaxBoats + 2, 2 * impl.MaxBoats, 500} {
		for _, track := range append(tracksToWatch(), impl.Track{}, trackOf(5, 0, 0, 5, 1, 1)) {
			tracks := slices.Repeat([]impl.Track{track}, n)
			for _, w := range []impl.Wind{toEast, {}, {X: impl.MaxWind + 1}} {
				for _, x := range []impl.Watch{plainWatch, stepping(1), {}, stepping(0), spanning(-1)} {
					refuseAll(t, w, x, tracks, impl.ErrLimit)
				}
			}
		}
	}
	for _, track := range []impl.Track{{}, trackOf(5, 0, 0, 5, 1, 1)} {
		refuseAll(t, toEast, plainWatch, slices.Repeat([]impl.Track{track}, impl.MaxBoats), impl.ErrInvalid)
	}
}

// Each choice of faults has the code that comes first.
func TestCodesOfIncidentsInTheirOrder(t *testing.T) {
	for faults := range 32 {
		w, x, a, b := toEast, stepping(1), goingNorth(0, 0, 0, impl.MaxChecks-1), goingNorth(9, 0, 0, impl.MaxChecks)
		if faults&8 != 0 {
			a = goingNorth(0, 0, 0, impl.MaxChecks)
		}
		if faults&1 != 0 {
			a.Fixes[1].Time = 0
		}
		if faults&2 != 0 {
			b.Fixes[0].X = impl.MaxCoord + 1
		}
		if faults&4 != 0 {
			x.Distance = impl.MaxNear + 1
		}
		if faults&16 != 0 {
			w = impl.Wind{}
		}
		switch {
		case faults&7 != 0:
			refuseWatched(t, x, a, b)
			refuseIncidentsIn(t, w, x, a, b)
		case faults&24 == 24:
			refuseTimes(t, x, a, b, impl.ErrLimit)
			refuseIncidentsIn(t, w, x, a, b)
		case faults&16 != 0:
			checkNearTimes(t, x, a, b)
			refuseIncidentsIn(t, w, x, a, b)
		case faults&8 != 0:
			refuseTimes(t, x, a, b, impl.ErrLimit)
			refuseIncidents(t, w, x, a, b, impl.ErrLimit)
			refuseAll(t, w, x, []impl.Track{a, b}, impl.ErrLimit)
		default:
			checkNearTimes(t, x, a, b)
			checkAll(t, w, x, []impl.Track{a, b})
		}
	}
}

func TestWatchingKeepsItsArguments(t *testing.T) {
	for _, track := range append(sailedTracks(), goingNorth(0, 0, 0, 60), trackOf(5, 0, 0, 5, 1, 1)) {
		sailed, fixes := roomyTrack(track)
		tracks := slices.Repeat([]impl.Track{sailed}, 2*impl.MaxBoats)
		kept, keptFixes := slices.Clone(tracks), slices.Clone(fixes)
		for _, x := range []impl.Watch{plainWatch, stepping(1), stepping(impl.MaxStep), {}} {
			impl.CheckTimes(x, sailed, sailed)
			impl.NearTimes(x, sailed, sailed)
			impl.IncidentsOf(toEast, x, sailed, sailed)
			for _, n := range []int{0, 1, 2, 3, impl.MaxBoats, impl.MaxBoats + 1} {
				impl.AllIncidents(toEast, x, tracks[:n])
			}
		}
		if !slices.Equal(fixes, keptFixes) {
			t.Fatalf("the track %v is modified", track)
		}
		if !slices.EqualFunc(tracks, kept, func(a, b impl.Track) bool { return sameTrack(a, b) && &a.Fixes[0] == &b.Fixes[0] }) {
			t.Fatalf("the tracks %v are modified", kept)
		}
	}
}

func TestCountingKeepsItsList(t *testing.T) {
	memory := keptBy(0, 1, -1, 2, 0, 5, -2, 0)
	before := slices.Clone(memory)
	for n := range memory {
		impl.KeeperCounts(3, memory[:n])
		impl.KeeperCounts(impl.MaxBoats, memory[:n])
	}
	if !slices.Equal(memory, before) {
		t.Errorf("the list %v has changed to %v", before, memory)
	}
}

// Results that share memory with one another would change here.
func TestWatchedResultsAreNew(t *testing.T) {
	tracks := abreastFrom(0, 10, 30, 0)
	wantTimes, wantList := []int64{30, 40, 50, 60, 70, 80, 90, 100}, []impl.Incident{windwardOn(10, 0, 1, 0), windwardOn(30, 1, 2, 1), windwardOn(30, 2, 3, 2)}
	for range 3 {
		checks, _ := impl.CheckTimes(plainWatch, tracks[1], tracks[2])
		times, _ := impl.NearTimes(plainWatch, tracks[1], tracks[2])
		list, all := incidentsOf(t, toEast, plainWatch, tracks[1], tracks[2]), allIncidents(t, toEast, plainWatch, tracks)
		counts, _ := impl.KeeperCounts(4, all)
		if !slices.Equal(checks, wantTimes) || !slices.Equal(times, wantTimes) || !slices.Equal(counts, []int64{1, 1, 1, 0}) {
			t.Fatalf("the times are %v and %v, and the counts %v", checks, times, counts)
		}
		if !slices.Equal(list, []impl.Incident{windwardOn(30, 0, 1, 0)}) || !slices.Equal(all, wantList) {
			t.Fatalf("the incidents are %v and %v", list, all)
		}
		overwriteNumbers(checks)
		if !slices.Equal(times, wantTimes) {
			t.Fatalf("the near times have changed to %v", times)
		}
		overwriteNumbers(times)
		overwriteNumbers(counts)
		clear(list[:cap(list)])
		if !slices.Equal(all, wantList) {
			t.Fatalf("all incidents have changed to %v", all)
		}
		clear(all[:cap(all)])
	}
}

// The same call has the same result, whatever is called between.
func TestWatchingKeepsNothing(t *testing.T) {
	a, b := goingNorth(0, 0, 0, 60), goingNorth(9, 0, 0, 60)
	want := []impl.Incident{windwardOn(0, 0, 1, 0)}
	for _, x := range append(invalidWatches()[:40], validWatches()[:40]...) {
		impl.AllIncidents(toWest, x, []impl.Track{b, a, lasting(0, impl.MaxTime)})
		impl.IncidentsOf(toEast, x, b, a)
		if list := incidentsOf(t, toEast, plainWatch, a, b); !slices.Equal(list, want) {
			t.Fatalf("after a call with %v, IncidentsOf = %v", x, list)
		}
	}
}
