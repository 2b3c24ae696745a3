package tests

import (
	"math"
	"math/rand"
	"slices"
	"testing"

	"loop.example/g00887/impl"
)

// expectedStart returns -1 if a lawful log has no start. It follows the definition, and not the state.
func expectedStart(list []impl.Signal) int64 {
	start := int64(-1)
	for _, x := range list {
		switch x.Kind {
		case impl.SignalStart:
			start = x.Time
		case impl.SignalRecall, impl.SignalAbandon:
			start = -1
		}
	}
	return start
}

// checkStart checks the start of a lawful log, and returns whether there is one.
func checkStart(t *testing.T, list []impl.Signal) bool {
	t.Helper()
	want, wantCode := expectedStart(list), int64(impl.ErrNone)
	if want < 0 {
		want, wantCode = 0, impl.ErrNotFound
	}
	if start, code := impl.StartTime(list); start != want || code != wantCode {
		t.Fatalf("StartTime(%v) = %d, %d, want %d, %d", list, start, code, want, wantCode)
	}
	return wantCode == impl.ErrNone
}

func refuseStart(t *testing.T, list []impl.Signal, want int64) {
	t.Helper()
	if start, code := impl.StartTime(list); start != 0 || code != want {
		t.Fatalf("StartTime(%v) = %d, %d, want the code %d", list, start, code, want)
	}
}

func TestStartTime(t *testing.T) {
	const started = "warning@500 prep@60500 minute@240500 start@300500"
	const again = started + " recall@310000 warning@370000 prep@430000 minute@610000 start@670000"
	for _, row := range []struct {
		text string
		want int64
	}{
		{started, 300500}, {again, 670000}, {"warning@0 prep@60000 minute@240000 start@300000", 300000}, {"warning@999700000 prep@999760000 minute@999940000 start@1000000000", impl.MaxTime}, {"postpone@5 resume@9 warning@60009 prep@120009 minute@300009 start@360009", 360009},
		{"", -1}, {"warning@500", -1}, {"warning@500 prep@60500", -1}, {"warning@500 prep@60500 minute@240500", -1}, {"warning@500 prep@60500 minute@240500 postpone@300500", -1}, {"postpone@500", -1}, {"postpone@500 resume@500", -1}, {"abandon@500", -1},
		{started + " recall@300500", -1}, {started + " recall@360500", -1}, {started + " abandon@300500", -1}, {started + " abandon@900000", -1}, {started + " recall@310000 abandon@310000", -1}, {started + " recall@310000 warning@370000", -1}, {started + " recall@310000 postpone@310000 resume@310000", -1}, {started + " recall@310000 warning@370000 prep@430000 minute@610000", -1},
		{again + " recall@670000", -1}, {again + " abandon@670000", -1},
	} {
		list := logOf(t, row.text)
		if checkStart(t, list) != (row.want >= 0) || row.want >= 0 && expectedStart(list) != row.want {
			t.Errorf("the start of %q is not %d", row.text, row.want)
		}
	}
}

func TestStartTimesOfAllStates(t *testing.T) {
	eachLogInAState(t, func(state string, list []impl.Signal) {
		if checkStart(t, list) != (state == "started") {
			t.Errorf("in the state %s, %v has a start, or none", state, list)
		}
	})
}

func TestStartTimesOfRandomLogs(t *testing.T) {
	random := rand.New(rand.NewSource(74))
	starts, again := 0, 0
	for range 2000 {
		list := randomLawful(random, 1+random.Intn(impl.MaxSignals))
		for n := range len(list) + 1 {
			if checkStart(t, list[:n]) {
				starts++
				if timeOfLast(list[:n], impl.SignalRecall) >= 0 {
					again++
				}
			}
		}
	}
	if starts < 1000 || again < 300 {
		t.Errorf("only %d logs have a start, and %d of them have it behind a recall", starts, again)
	}
}

func TestStartTimeRefuses(t *testing.T) {
	for _, list := range invalidLogs() {
		refuseStart(t, list, impl.ErrInvalid)
	}
	for _, list := range unlawfulLogs(t) {
		refuseStart(t, list, impl.ErrState)
	}
}

// checkSequences checks the sequences of some fleets, each of which is that of SequenceFor, and is lawful.
func checkSequences(t *testing.T, fleets, warning int64) {
	t.Helper()
	all, code := impl.FleetSequences(fleets, warning)
	if int64(len(all)) != fleets || code != impl.ErrNone {
		t.Fatalf("FleetSequences(%d, %d) = %v, %d", fleets, warning, all, code)
	}
	for k, list := range all {
		from := warning + int64(k)*300000
		want := []impl.Signal{signal(impl.SignalWarning, from), signal(impl.SignalPrep, from+60000), signal(impl.SignalMinute, from+240000), signal(impl.SignalStart, from+300000)}
		one, code := impl.SequenceFor(from)
		if !slices.Equal(list, want) || !slices.Equal(one, want) || code != impl.ErrNone {
			t.Fatalf("FleetSequences(%d, %d)[%d] = %v, and SequenceFor(%d) = %v, %d, want %v", fleets, warning, k, list, from, one, code, want)
		}
		checkParts(t, list)
		if start, code := impl.StartTime(list); start != from+300000 || code != impl.ErrNone {
			t.Fatalf("StartTime(%v) = %d, %d", list, start, code)
		}
	}
}

func refuseSequences(t *testing.T, fleets, warning int64) {
	t.Helper()
	if all, code := impl.FleetSequences(fleets, warning); len(all) != 0 || code != impl.ErrRange {
		t.Fatalf("FleetSequences(%d, %d) = %v, %d, want the code %d", fleets, warning, all, code, impl.ErrRange)
	}
}

func refuseSequence(t *testing.T, warning int64) {
	t.Helper()
	if list, code := impl.SequenceFor(warning); len(list) != 0 || code != impl.ErrRange {
		t.Fatalf("SequenceFor(%d) = %v, %d, want the code %d", warning, list, code, impl.ErrRange)
	}
}

// badWarnings are those from which no sequence is possible.
var badWarnings = append([]int64{-1, -2, -60000, -300000, -300001, impl.MaxTime - 299999, impl.MaxTime - 240000, impl.MaxTime - 60000, impl.MaxTime - 1, impl.MaxTime, impl.MaxTime + 1, 1 << 32, -1 << 32, math.MaxInt64 - 299999, math.MaxInt64 - 300000, math.MaxInt64 - 300001, math.MaxInt64 - 2400000}, extremes...)

func TestSequenceFor(t *testing.T) {
	for _, warning := range []int64{0, 1, 59999, 60000, 300000, 12345678, 500000000, impl.MaxTime - 300001, impl.MaxTime - 300000} {
		checkSequences(t, 1, warning)
	}
	for _, warning := range badWarnings {
		refuseSequence(t, warning)
	}
}

func TestFleetSequences(t *testing.T) {
	for fleets := int64(1); fleets <= 8; fleets++ {
		last := impl.MaxTime - fleets*300000
		for _, warning := range []int64{0, 1, 1000, 60000, 12345678, last - 1, last} {
			checkSequences(t, fleets, warning)
		}
		for _, warning := range []int64{last + 1, last + 2, last + 60000, last + 300000} {
			refuseSequences(t, fleets, warning)
		}
		for _, warning := range badWarnings {
			refuseSequences(t, fleets, warning)
		}
	}
	for _, fleets := range append([]int64{-8, -2, -1, 0, 9, 10, 16, 1 << 32, 1 + 1<<32, 1 << 40}, extremes...) {
		for _, warning := range append([]int64{0, 1, 1000, 500000000, impl.MaxTime - 300000, impl.MaxTime - 2400000, impl.MaxTime - 2700000}, badWarnings...) {
			refuseSequences(t, fleets, warning)
		}
	}
}

// The signals of each fleet follow those of the fleet before it, from its start on.
func TestFleetsFollowOneAnother(t *testing.T) {
	random := rand.New(rand.NewSource(75))
	for range 500 {
		fleets := 1 + random.Int63n(8)
		checkSequences(t, fleets, random.Int63n(impl.MaxTime-fleets*300000+1))
		all, _ := impl.FleetSequences(fleets, random.Int63n(impl.MaxTime-fleets*300000+1))
		for k := range all[1:] {
			if all[k+1][0].Time != all[k][3].Time {
				t.Fatalf("the fleet %d starts at %v, and the next one is warned at %v", k, all[k][3], all[k+1][0])
			}
		}
	}
}
