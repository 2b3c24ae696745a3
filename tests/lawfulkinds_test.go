package tests

import (
	"math/rand"
	"slices"
	"testing"

	"loop.example/g00887/impl"
)

// expectedKinds are those that are lawful behind a lawful log.
func expectedKinds(list []impl.Signal, time int64) []int64 {
	state, _ := expectedState(list)
	kinds := []int64{}
	for kind := int64(1); kind <= 8; kind++ {
		if expectedNext(list, state, signal(kind, time)) != "" {
			kinds = append(kinds, kind)
		}
	}
	return kinds
}

// checkKinds checks the kinds that are lawful behind a lawful log, also against FirstUnlawful of the
// log with one more signal.
func checkKinds(t *testing.T, list []impl.Signal, time int64) []int64 {
	t.Helper()
	kinds, code := impl.LawfulKinds(list, time)
	if want := expectedKinds(list, time); !slices.Equal(kinds, want) || code != impl.ErrNone {
		t.Fatalf("LawfulKinds(%v, %d) = %v, %d, want %v", list, time, kinds, code, want)
	}
	for kind := int64(1); kind <= 8 && len(list) < impl.MaxSignals; kind++ {
		at, code := impl.FirstUnlawful(with(list, kind, time))
		if (at == -1) != slices.Contains(kinds, kind) || code != impl.ErrNone {
			t.Fatalf("LawfulKinds(%v, %d) = %v, but with the kind %d FirstUnlawful = %d, %d", list, time, kinds, kind, at, code)
		}
	}
	return kinds
}

func refuseKinds(t *testing.T, list []impl.Signal, time, want int64) {
	t.Helper()
	if kinds, code := impl.LawfulKinds(list, time); len(kinds) != 0 || code != want {
		t.Fatalf("LawfulKinds(%v, %d) = %v, %d, want the code %d", list, time, kinds, code, want)
	}
}

// timesBefore are those at which no signal can follow a log.
func timesBefore(list []impl.Signal) []int64 {
	times := append([]int64{-1, -60000, impl.MaxTime + 1, impl.MaxTime + 60000, 1 << 32, 1 << 40}, extremes...)
	if len(list) == 0 {
		return times
	}
	last := list[len(list)-1].Time
	for _, time := range []int64{0, list[0].Time, last - 60000, last - 2, last - 1} {
		if time < last {
			times = append(times, time)
		}
	}
	return times
}

// unlawfulLogs have a signal that is not lawful at each place.
func unlawfulLogs(t *testing.T) [][]impl.Signal {
	t.Helper()
	logs := [][]impl.Signal{}
	for _, text := range []string{
		"prep@60000", "start@500", "resume@0", "recall@9", "minute@240000", "prep@0 warning@0 prep@60000", "abandon@1 abandon@1", "abandon@1 warning@2 prep@60002",
		"warning@0 prep@60001", "warning@0 prep@59999 minute@240000 start@300000", "warning@0 prep@60000 minute@240001", "warning@0 prep@60000 minute@240000 start@299999", "warning@0 prep@60000 minute@240000 start@300001",
		"warning@0 prep@60000 minute@240000 start@300000 recall@360001", "warning@0 prep@60000 minute@240000 start@300000 start@300000", "warning@0 prep@60000 minute@240000 start@300000 postpone@300000", "warning@0 prep@60000 minute@240000 start@300000 abandon@300000 recall@300000",
		"postpone@5 resume@9 warning@60008", "postpone@5 postpone@5", "postpone@5 resume@9 resume@10", "warning@0 warning@60000 prep@60000",
	} {
		logs = append(logs, logOf(t, text))
	}
	for n := range impl.MaxSignals {
		logs = append(logs, with(pauses(n, 5), impl.SignalMinute, 5), append([]impl.Signal{signal(impl.SignalRecall, 0)}, pauses(n, 5)...))
	}
	for _, list := range logs {
		if checkLawful(t, list) == -1 {
			t.Fatalf("%v is lawful", list)
		}
	}
	return logs
}

func TestLawfulKinds(t *testing.T) {
	const started = "warning@500 prep@60500 minute@240500 start@300500"
	for _, row := range []struct {
		text string
		time int64
		want []int64
	}{
		{"", 0, []int64{1, 5, 8}}, {"", 1, []int64{1, 5, 8}}, {"", 60000, []int64{1, 5, 8}}, {"", impl.MaxTime - 1, []int64{1, 5, 8}}, {"", impl.MaxTime, []int64{1, 5, 8}},
		{"warning@500", 500, []int64{5, 8}}, {"warning@500", 60499, []int64{5, 8}}, {"warning@500", 60500, []int64{2, 5, 8}}, {"warning@500", 60501, []int64{5, 8}}, {"warning@500", 240500, []int64{5, 8}}, {"warning@500", impl.MaxTime, []int64{5, 8}},
		{"warning@500 prep@60500", 60500, []int64{5, 8}}, {"warning@500 prep@60500", 240499, []int64{5, 8}}, {"warning@500 prep@60500", 240500, []int64{3, 5, 8}}, {"warning@500 prep@60500", 240501, []int64{5, 8}},
		{"warning@500 prep@60500 minute@240500", 240500, []int64{5, 8}}, {"warning@500 prep@60500 minute@240500", 300499, []int64{5, 8}}, {"warning@500 prep@60500 minute@240500", 300500, []int64{4, 5, 8}}, {"warning@500 prep@60500 minute@240500", 300501, []int64{5, 8}},
		{started, 300500, []int64{7, 8}}, {started, 300501, []int64{7, 8}}, {started, 360499, []int64{7, 8}}, {started, 360500, []int64{7, 8}}, {started, 360501, []int64{8}}, {started, impl.MaxTime, []int64{8}},
		{"postpone@500", 500, []int64{6, 8}}, {"postpone@500", 60500, []int64{6, 8}}, {"postpone@500", impl.MaxTime, []int64{6, 8}}, {"warning@500 postpone@600", 60500, []int64{6, 8}},
		{"postpone@500 resume@700", 700, []int64{5, 8}}, {"postpone@500 resume@700", 60500, []int64{5, 8}}, {"postpone@500 resume@700", 60699, []int64{5, 8}}, {"postpone@500 resume@700", 60700, []int64{1, 5, 8}}, {"postpone@500 resume@700", 60701, []int64{5, 8}},
		{started + " recall@310000", 310000, []int64{5, 8}}, {started + " recall@310000", 360500, []int64{5, 8}}, {started + " recall@310000", 369999, []int64{5, 8}}, {started + " recall@310000", 370000, []int64{1, 5, 8}}, {started + " recall@310000", 370001, []int64{5, 8}},
		{started + " recall@310000 warning@370000", 430000, []int64{2, 5, 8}}, {started + " recall@310000 postpone@310000 resume@320000", 380000, []int64{1, 5, 8}}, {started + " recall@310000 postpone@310000 resume@320000", 370000, []int64{5, 8}},
		{"abandon@500", 500, nil}, {"abandon@500", 501, nil}, {"abandon@500", 60500, nil}, {"abandon@500", impl.MaxTime, nil}, {started + " abandon@300500", 300500, nil},
		{"warning@1000000000", impl.MaxTime, []int64{5, 8}}, {"postpone@1000000000 resume@1000000000", impl.MaxTime, []int64{5, 8}}, {"postpone@999940000 resume@999940000", impl.MaxTime, []int64{1, 5, 8}}, {"postpone@999940001 resume@999940001", impl.MaxTime, []int64{5, 8}}, {"warning@999940000", impl.MaxTime, []int64{2, 5, 8}},
	} {
		if kinds := checkKinds(t, logOf(t, row.text), row.time); !slices.Equal(kinds, row.want) {
			t.Errorf("LawfulKinds of %q at %d = %v, want %v", row.text, row.time, kinds, row.want)
		}
	}
}

func TestLawfulKindsInAllStates(t *testing.T) {
	eachLogInAState(t, func(state string, list []impl.Signal) {
		for _, time := range possibleTimes(list) {
			if kinds := checkKinds(t, list, time); (len(kinds) == 0) != (state == "abandoned") {
				t.Errorf("in the state %s, LawfulKinds(%v, %d) = %v", state, list, time, kinds)
			}
		}
		for _, time := range timesBefore(list) {
			refuseKinds(t, list, time, impl.ErrRange)
		}
	})
}

func TestLawfulKindsBehindRandomLogs(t *testing.T) {
	random := rand.New(rand.NewSource(73))
	for range 700 {
		list := randomLawful(random, random.Intn(impl.MaxSignals+1))
		times := possibleTimes(list)
		for range 30 {
			checkKinds(t, list, times[random.Intn(len(times))])
		}
	}
}

// The table alone tells what is lawful, also behind a log with as many signals as a log can have.
func TestLawfulKindsBehindTheLongestLog(t *testing.T) {
	for n := impl.MaxSignals - 3; n <= impl.MaxSignals; n++ {
		want, wantLater := []int64{5, 8}, []int64{1, 5, 8}
		if n%2 == 1 {
			want, wantLater = []int64{6, 8}, []int64{6, 8}
		}
		if kinds := checkKinds(t, pauses(n, 7), 7); !slices.Equal(kinds, want) {
			t.Errorf("behind %d signals, LawfulKinds = %v", n, kinds)
		}
		if kinds := checkKinds(t, pauses(n, 7), 60007); !slices.Equal(kinds, wantLater) {
			t.Errorf("behind %d signals and a minute, LawfulKinds = %v", n, kinds)
		}
	}
}

// What is not a log comes ahead of what is not lawful, and that ahead of the time.
func TestLawfulKindsRefuses(t *testing.T) {
	for _, list := range invalidLogs() {
		for _, time := range []int64{-1, 0, 500, 300500, impl.MaxTime, impl.MaxTime + 1} {
			refuseKinds(t, list, time, impl.ErrInvalid)
		}
	}
	for _, list := range unlawfulLogs(t) {
		for _, time := range slices.Concat(possibleTimes(list), timesBefore(list)) {
			refuseKinds(t, list, time, impl.ErrState)
		}
	}
	for _, time := range timesBefore(nil) {
		refuseKinds(t, nil, time, impl.ErrRange)
		refuseKinds(t, []impl.Signal{}, time, impl.ErrRange)
	}
}
