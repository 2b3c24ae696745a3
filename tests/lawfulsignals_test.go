package tests

import (
	"math/rand"
	"slices"
	"strings"
	"testing"

	"loop.example/g00887/impl"
)

// lawRow is a row of the document's table: the signal is lawful in some states, so long after the last
// signal of one of some kinds as from least to most, or at any time if it names no kinds.
type lawRow struct {
	kind        int64
	states      []string
	behind      []int64
	least, most int64
	next        string
}

var lawRows = []lawRow{
	{kind: impl.SignalWarning, states: []string{"idle"}, next: "warned"},
	{kind: impl.SignalWarning, states: []string{"resumed", "recalled"}, behind: []int64{impl.SignalResume, impl.SignalRecall}, least: 60000, most: 60000, next: "warned"},
	{kind: impl.SignalPrep, states: []string{"warned"}, behind: []int64{impl.SignalWarning}, least: 60000, most: 60000, next: "prepared"},
	{kind: impl.SignalMinute, states: []string{"prepared"}, behind: []int64{impl.SignalWarning}, least: 240000, most: 240000, next: "last minute"},
	{kind: impl.SignalStart, states: []string{"last minute"}, behind: []int64{impl.SignalWarning}, least: 300000, most: 300000, next: "started"},
	{kind: impl.SignalPostpone, states: []string{"idle", "warned", "prepared", "last minute", "resumed", "recalled"}, next: "postponed"},
	{kind: impl.SignalResume, states: []string{"postponed"}, next: "resumed"},
	{kind: impl.SignalRecall, states: []string{"started"}, behind: []int64{impl.SignalStart}, least: 0, most: 60000, next: "recalled"},
	{kind: impl.SignalAbandon, states: []string{"idle", "warned", "prepared", "last minute", "started", "postponed", "resumed", "recalled"}, next: "abandoned"},
}

// timeOfLast returns -1 if there is no signal of one of the kinds.
func timeOfLast(list []impl.Signal, kinds ...int64) int64 {
	for _, x := range slices.Backward(list) {
		if slices.Contains(kinds, x.Kind) {
			return x.Time
		}
	}
	return -1
}

// expectedNext returns the state to which a signal leads behind others, or the empty text if it is not
// lawful.
func expectedNext(list []impl.Signal, state string, x impl.Signal) string {
	for _, row := range lawRows {
		if row.kind != x.Kind || !slices.Contains(row.states, state) {
			continue
		}
		if row.behind == nil {
			return row.next
		}
		if delay := x.Time - timeOfLast(list, row.behind...); row.least <= delay && delay <= row.most {
			return row.next
		}
	}
	return ""
}

// expectedState returns the state behind the lawful signals of a log, and the index of the first one
// that is not lawful, or -1.
func expectedState(list []impl.Signal) (string, int64) {
	state := "idle"
	for k, x := range list {
		next := expectedNext(list[:k], state, x)
		if next == "" {
			return state, int64(k)
		}
		state = next
	}
	return state, -1
}

// checkLawful checks FirstUnlawful of a log, and returns what it is.
func checkLawful(t *testing.T, list []impl.Signal) int64 {
	t.Helper()
	_, want := expectedState(list)
	if at, code := impl.FirstUnlawful(list); at != want || code != impl.ErrNone {
		t.Fatalf("FirstUnlawful(%v) = %d, %d, want %d", list, at, code, want)
	}
	return want
}

// checkParts checks that every part of a lawful log from its beginning is lawful.
func checkParts(t *testing.T, list []impl.Signal) {
	t.Helper()
	for n := range len(list) + 1 {
		if at, code := impl.FirstUnlawful(list[:n]); at != -1 || code != impl.ErrNone {
			t.Fatalf("FirstUnlawful(%v) = %d, %d, but it is a part of the lawful log %v", list[:n], at, code, list)
		}
	}
}

// logsInStates lead to each state in each way, with times that can be told from one another.
var logsInStates = map[string][]string{
	"idle":        {""},
	"warned":      {"warning@1000", "warning@0", "postpone@5 resume@9 warning@60009", "warning@7 prep@60007 minute@240007 start@300007 recall@310000 warning@370000", "warning@7 postpone@8 resume@70000 warning@130000", "postpone@5 resume@9 postpone@9 resume@20 warning@60020", "warning@999940000"},
	"prepared":    {"warning@1000 prep@61000", "postpone@5 resume@9 warning@60009 prep@120009", "warning@0 prep@60000 postpone@60000 resume@60001 warning@120001 prep@180001"},
	"last minute": {"warning@1000 prep@61000 minute@241000", "warning@0 postpone@0 resume@0 warning@60000 prep@120000 minute@300000"},
	"started":     {"warning@1000 prep@61000 minute@241000 start@301000", "warning@0 prep@60000 minute@240000 start@300000 recall@300000 warning@360000 prep@420000 minute@600000 start@660000", "warning@999700000 prep@999760000 minute@999940000 start@1000000000"},
	"postponed":   {"postpone@7", "warning@1000 postpone@1000", "warning@1000 prep@61000 postpone@500000", "warning@1000 prep@61000 minute@241000 postpone@241001", "postpone@7 resume@9 postpone@20", "warning@7 prep@60007 minute@240007 start@300007 recall@310000 postpone@320000", "postpone@1000000000"},
	"resumed":     {"postpone@7 resume@9", "postpone@0 resume@0", "warning@1000 postpone@1001 resume@500000", "postpone@7 resume@9 postpone@11 resume@999", "warning@7 prep@60007 minute@240007 start@300007 recall@310000 postpone@310000 resume@310005", "postpone@7 resume@999940000"},
	"recalled":    {"warning@7 prep@60007 minute@240007 start@300007 recall@310000", "warning@7 prep@60007 minute@240007 start@300007 recall@300007", "warning@7 prep@60007 minute@240007 start@300007 recall@360007", "postpone@5 resume@9 warning@60009 prep@120009 minute@300009 start@360009 recall@360010"},
	"abandoned":   {"abandon@3", "warning@1000 abandon@1000", "warning@1000 prep@61000 abandon@61001", "warning@1000 prep@61000 minute@241000 abandon@300999", "warning@1000 prep@61000 minute@241000 start@301000 abandon@301000", "postpone@7 abandon@8", "postpone@7 resume@9 abandon@10", "warning@7 prep@60007 minute@240007 start@300007 recall@310000 abandon@310000"},
}

// timesBehind are those at which a signal may become lawful behind a log, and those just beside them.
func timesBehind(list []impl.Signal) []int64 {
	bases := []int64{0, impl.MaxTime}
	for _, x := range list {
		bases = append(bases, x.Time)
	}
	times := []int64{}
	for _, base := range bases {
		for _, minutes := range []int64{0, 1, 2, 3, 4, 5, 6} {
			for beside := int64(-1); beside <= 1; beside++ {
				times = append(times, base+minutes*60000+beside)
			}
		}
	}
	slices.Sort(times)
	return slices.Compact(times)
}

// possibleTimes are those of timesBehind at which a signal can follow a log.
func possibleTimes(list []impl.Signal) []int64 {
	last := int64(0)
	if len(list) > 0 {
		last = list[len(list)-1].Time
	}
	isImpossible := func(time int64) bool { return time < last || time > impl.MaxTime }
	return slices.DeleteFunc(timesBehind(list), isImpossible)
}

// eachLogInAState calls a function with each of logsInStates.
func eachLogInAState(t *testing.T, see func(state string, list []impl.Signal)) {
	t.Helper()
	for state, texts := range logsInStates {
		for _, text := range texts {
			list := logOf(t, text)
			if is, at := expectedState(list); is != state || at != -1 {
				t.Fatalf("%q leads to %s, and its signal %d is not lawful", text, is, at)
			}
			see(state, list)
		}
	}
}

// followers are signals that are lawful behind a log, by their kinds.
func followers(list []impl.Signal, state string) map[int64][]impl.Signal {
	last, warning := impl.Signal{}, max(0, timeOfLast(list, impl.SignalWarning))
	if len(list) > 0 {
		last = list[len(list)-1]
	}
	found := map[int64][]impl.Signal{}
	for _, time := range []int64{last.Time, last.Time + 1, last.Time + 59999, last.Time + 60000, warning + 60000, warning + 240000, warning + 300000} {
		for kind := int64(1); kind <= 8; kind++ {
			x := signal(kind, time)
			if last.Time <= time && time <= impl.MaxTime && expectedNext(list, state, x) != "" {
				found[kind] = append(found[kind], x)
			}
		}
	}
	return found
}

// randomLawful is a lawful log of up to n signals; few of them are abandoned.
func randomLawful(random *rand.Rand, n int) []impl.Signal {
	list := []impl.Signal{}
	state := "idle"
	for len(list) < n {
		found := followers(list, state)
		if len(found) == 0 {
			break
		}
		// Otherwise few of the logs would have a start.
		isRare := func(kind int64) bool { return kind == impl.SignalPostpone || kind == impl.SignalAbandon }
		kind := 1 + random.Int63n(8)
		for len(found[kind]) == 0 || isRare(kind) && random.Intn(12) > 0 {
			kind = 1 + random.Int63n(8)
		}
		x := found[kind][random.Intn(len(found[kind]))]
		state = expectedNext(list, state, x)
		list = append(list, x)
	}
	return list
}

func TestEachRowOfTheTable(t *testing.T) {
	const started = "warning@500 prep@60500 minute@240500 start@300500"
	for _, row := range []struct {
		before string
		lawful string
		not    string
	}{
		{"", "warning@0 warning@1 warning@1000000000 postpone@0 postpone@77 abandon@0 abandon@77", "prep@0 prep@60000 minute@0 minute@240000 start@0 start@300000 resume@0 resume@5 recall@0 recall@60000"},
		{"warning@500", "prep@60500 postpone@500 postpone@90000 abandon@500 abandon@90000", "warning@500 warning@60500 prep@500 prep@60499 prep@60501 prep@240500 minute@60500 minute@240500 start@60500 start@300500 resume@500 resume@60500 recall@500 recall@60500"},
		{"warning@500 prep@60500", "minute@240500 postpone@60500 postpone@900000 abandon@60500 abandon@900000", "warning@60500 warning@120500 prep@60500 prep@120500 minute@60500 minute@240499 minute@240501 minute@120500 minute@300500 start@240500 start@300500 resume@60500 resume@240500 recall@60500 recall@120500"},
		{"warning@500 prep@60500 minute@240500", "start@300500 postpone@240500 postpone@300500 abandon@240500 abandon@300501", "warning@240500 warning@300500 prep@240500 prep@300500 minute@240500 minute@300500 start@240500 start@300499 start@300501 start@540500 resume@240500 resume@300500 recall@240500 recall@300500"},
		{started, "recall@300500 recall@300501 recall@360499 recall@360500 abandon@300500 abandon@360501 abandon@1000000000", "warning@300500 warning@360500 prep@360500 minute@360500 start@300500 start@360500 postpone@300500 postpone@360500 resume@300500 resume@360500 recall@360501 recall@1000000000"},
		{"postpone@500", "resume@500 resume@501 resume@60500 resume@1000000000 abandon@500 abandon@90000", "warning@500 warning@60500 prep@60500 minute@240500 start@300500 postpone@500 postpone@60500 recall@500 recall@60500"},
		{"warning@500 postpone@700", "resume@700 resume@60500 abandon@700", "warning@700 warning@60500 warning@60700 prep@60500 minute@240500 start@300500 postpone@700 recall@700"},
		{"warning@500 prep@60500 postpone@60700", "resume@60700 abandon@60700", "warning@120700 prep@120500 minute@240500 start@300500 postpone@60700 recall@60700"},
		{"warning@500 prep@60500 minute@240500 postpone@240700", "resume@300700 abandon@240700", "warning@300700 minute@240700 start@300500 postpone@240700 recall@240700"},
		{"postpone@500 resume@700", "warning@60700 postpone@700 postpone@70000 abandon@700 abandon@70000", "warning@700 warning@60500 warning@60699 warning@60701 warning@120700 prep@60700 minute@240700 start@300700 resume@700 resume@60700 recall@700 recall@60700"},
		{"warning@500 postpone@700 resume@60700", "warning@120700 postpone@60700 abandon@60700", "warning@60700 warning@120699 warning@120701 prep@60700 minute@240500 start@300500 resume@60700 recall@60700"},
		{started + " recall@310000", "warning@370000 postpone@310000 postpone@400000 abandon@310000 abandon@400000", "warning@310000 warning@360500 warning@369999 warning@370001 warning@430000 prep@370000 minute@540500 start@600500 resume@310000 resume@370000 recall@310000 recall@360500"},
		{started + " recall@310000 postpone@310500", "resume@310500 resume@320000 abandon@370000", "warning@370000 warning@370500 prep@370000 postpone@310500 recall@310500 recall@360500 start@310500"},
		{started + " recall@310000 postpone@310500 resume@310700", "warning@370700 postpone@310700 abandon@310700", "warning@370000 warning@370500 warning@370699 warning@370701 resume@310700 recall@310700 start@310700"},
		{started + " recall@310000 warning@370000", "prep@430000 postpone@370000 abandon@370000", "prep@429999 prep@430001 prep@370500 warning@430000 minute@610000 start@670000 recall@370000 resume@370000"},
		{started + " recall@310000 warning@370000 prep@430000", "minute@610000 postpone@430000 abandon@430000", "minute@609999 minute@610001 minute@540500 start@670000 recall@430000 resume@430000"},
		{started + " recall@310000 warning@370000 prep@430000 minute@610000", "start@670000 postpone@610000 abandon@610000", "start@669999 start@670001 recall@610000 resume@610000"},
		{started + " recall@310000 warning@370000 prep@430000 minute@610000 start@670000", "recall@670000 recall@730000 abandon@670000", "recall@730001 warning@730000 postpone@670000 resume@670000 start@670000"},
		{"abandon@500", "", "warning@500 warning@60500 prep@60500 minute@240500 start@300500 postpone@500 resume@500 recall@500 recall@60500 abandon@500 abandon@501 abandon@1000000000"},
		{started + " abandon@310000", "", "warning@370000 postpone@310000 resume@310000 recall@310000 recall@360500 abandon@310000"},
	} {
		before := logOf(t, row.before)
		for k, words := range []string{row.lawful, row.not} {
			for _, word := range strings.Fields(words) {
				list := append(slices.Clone(before), logOf(t, word)...)
				want := int64(-1)
				if k == 1 {
					want = int64(len(before))
				}
				if at := checkLawful(t, list); at != want {
					t.Errorf("behind %q, of %q the first signal that is not lawful is %d, want %d", row.before, word, at, want)
				}
			}
		}
		checkParts(t, before)
	}
}

func TestFirstUnlawful(t *testing.T) {
	for _, row := range []struct {
		text string
		want int64
	}{
		{"", -1}, {"warning@0", -1}, {"abandon@1000000000", -1}, {"prep@0", 0}, {"recall@0", 0}, {"resume@9", 0},
		{"prep@0 warning@0 prep@60000", 0}, {"start@5 start@5 start@5", 0}, {"resume@1 postpone@2", 0},
		{"warning@0 prep@60000 minute@240000 start@300000", -1},
		{"warning@0 prep@60001 minute@240000 start@300000", 1}, {"warning@0 prep@60000 minute@240001 start@300000", 2}, {"warning@0 prep@60000 minute@240000 start@300001", 3}, {"warning@1 prep@60000 minute@240000 start@300000", 1},
		{"warning@0 warning@0 prep@60000 minute@240000", 1}, {"warning@0 prep@60000 minute@240000 minute@240000 start@300000", 3}, {"warning@0 prep@60000 start@300000 recall@300000", 2}, {"warning@0 minute@240000 start@300000", 1},
		{"warning@0 abandon@0 abandon@0 abandon@0", 2}, {"abandon@0 warning@0", 1}, {"postpone@0 resume@0 resume@0 postpone@0", 2}, {"postpone@5 resume@9 warning@60009", -1}, {"postpone@5 resume@9 warning@60010", 2}, {"postpone@5 warning@60005", 1},
		{"warning@0 prep@60000 minute@240000 start@300000 recall@330000 warning@390000", -1}, {"warning@0 prep@60000 minute@240000 start@300000 recall@330000 warning@390001", 5}, {"warning@0 prep@60000 minute@240000 start@300000 recall@360001 warning@420001", 4},
	} {
		if at := checkLawful(t, logOf(t, row.text)); at != row.want {
			t.Errorf("FirstUnlawful of %q = %d, want %d", row.text, at, row.want)
		}
	}
	for n := range impl.MaxSignals + 1 {
		if at := checkLawful(t, pauses(n, 5)); at != -1 {
			t.Errorf("FirstUnlawful of %d signals = %d", n, at)
		}
		if n > 0 {
			// The last one is the only one, or the first one, that is not lawful.
			list := with(pauses(n-1, 5), impl.SignalRecall, 5)
			if at := checkLawful(t, list); at != int64(n-1) {
				t.Errorf("FirstUnlawful of %v = %d", list, at)
			}
		}
		if n > 1 {
			if at := checkLawful(t, slices.Repeat([]impl.Signal{signal(impl.SignalAbandon, 0)}, n)); at != 1 {
				t.Errorf("FirstUnlawful of %d signals to abandon = %d", n, at)
			}
		}
	}
}

func TestFirstUnlawfulRefusesWhatIsNotALog(t *testing.T) {
	for _, list := range invalidLogs() {
		if at, code := impl.FirstUnlawful(list); at != 0 || code != impl.ErrInvalid {
			t.Fatalf("FirstUnlawful(%v) = %d, %d", list, at, code)
		}
	}
}

// Each kind in each state, at each time that a row asks for and just beside it.
func TestSignalsInAllStates(t *testing.T) {
	lawful := map[string]int{}
	eachLogInAState(t, func(state string, list []impl.Signal) {
		checkParts(t, list)
		for kind := int64(1); kind <= 8; kind++ {
			for _, time := range possibleTimes(list) {
				if checkLawful(t, with(list, kind, time)) == -1 {
					lawful[state]++
				}
			}
		}
	})
	for state := range logsInStates {
		if (lawful[state] == 0) != (state == "abandoned") {
			t.Errorf("%d signals are lawful in the state %s", lawful[state], state)
		}
	}
}

// All lawful logs of few signals with the times that matter, and all signals behind them.
func TestAllShortLogs(t *testing.T) {
	count := 0
	var extend func(list []impl.Signal)
	extend = func(list []impl.Signal) {
		count++
		for _, time := range possibleTimes(list) {
			for kind := int64(1); kind <= 8; kind++ {
				longer := with(list, kind, time)
				if checkLawful(t, longer) == -1 && len(longer) < 3 && time < 400000 {
					extend(longer)
				}
			}
		}
	}
	extend(nil)
	if count < 500 {
		t.Errorf("only %d logs", count)
	}
}

func TestPartsOfLawfulLogs(t *testing.T) {
	random := rand.New(rand.NewSource(71))
	long, starts := 0, 0
	for range 1500 {
		list := randomLawful(random, 1+random.Intn(impl.MaxSignals))
		if checkLawful(t, list) != -1 {
			t.Fatalf("%v is lawful", list)
		}
		checkParts(t, list)
		if len(list) >= 20 {
			long++
		}
		if timeOfLast(list, impl.SignalStart) >= 0 {
			starts++
		}
	}
	if long < 100 || starts < 300 {
		t.Errorf("only %d logs are long, and %d have a start", long, starts)
	}
}

// A signal that is not lawful stays the first one, whatever follows it.
func TestSignalsBehindAnUnlawfulOne(t *testing.T) {
	random := rand.New(rand.NewSource(72))
	places := map[int64]int{}
	for range 3000 {
		list := randomLog(random)
		at := checkLawful(t, list)
		places[at]++
		if at >= 0 {
			checkParts(t, list[:at])
			for n := at + 1; n <= int64(len(list)); n++ {
				if checkLawful(t, list[:n]) != at {
					t.Fatalf("the signal %d of %v is the first one that is not lawful", at, list)
				}
			}
		}
	}
	for range 3000 {
		list := randomLawful(random, 1+random.Intn(impl.MaxSignals))
		k := random.Intn(len(list))
		list[k] = signal(1+random.Int63n(8), list[k].Time)
		places[checkLawful(t, list)]++
	}
	if len(places) < 20 || places[-1] < 200 {
		t.Errorf("places: %v", places)
	}
}
