package tests

import (
	"math/rand"
	"regexp"
	"slices"
	"strconv"
	"strings"
	"testing"

	"loop.example/g00887/impl"
)

// signalKinds are all kinds, in their order, with their words.
var signalKinds = []string{1: "warning", 2: "prep", 3: "minute", 4: "start", 5: "postpone", 6: "resume", 7: "recall", 8: "abandon"}

var signalForm = regexp.MustCompile(`\A([a-z]+)@(0|[1-9][0-9]{0,9})\z`)

func isExpectedLog(list []impl.Signal) bool {
	last := int64(0)
	for _, x := range list {
		if x.Kind < 1 || x.Kind > 8 || x.Time < last || x.Time > 1000000000 {
			return false
		}
		last = x.Time
	}
	return len(list) <= 40
}

// expectedLog reads a text by a rule of its own, so that ReadSignals is not compared with SignalsText.
func expectedLog(s string) ([]impl.Signal, bool) {
	list := []impl.Signal{}
	if s == "" {
		return list, true
	}
	for _, part := range strings.Split(s, " ") {
		m := signalForm.FindStringSubmatch(part)
		if m == nil {
			return nil, false
		}
		time, _ := strconv.ParseInt(m[2], 10, 64)
		list = append(list, impl.Signal{Kind: int64(slices.Index(signalKinds, m[1])), Time: time})
	}
	if !isExpectedLog(list) {
		return nil, false
	}
	return list, true
}

// logOf is the log with a text. It is not read by the program.
func logOf(t *testing.T, s string) []impl.Signal {
	t.Helper()
	list, ok := expectedLog(s)
	if !ok {
		t.Fatalf("%q is not a text of a log", s)
	}
	return list
}

func signal(kind, time int64) impl.Signal { return impl.Signal{Kind: kind, Time: time} }

// with is a list of new memory with one more signal.
func with(list []impl.Signal, kind, time int64) []impl.Signal {
	return append(slices.Clone(list), signal(kind, time))
}

// pauses are a lawful log of n signals at one time: it is postponed and resumed again and again.
func pauses(n int, time int64) []impl.Signal {
	list := []impl.Signal{}
	for k := range n {
		list = append(list, signal(int64(impl.SignalPostpone+k%2), time))
	}
	return list
}

// badSignals have one fault each.
func badSignals() []impl.Signal {
	list := []impl.Signal{{}}
	for _, n := range append([]int64{-1, 0, 9, 10, 1 + 1<<32, 8 + 1<<32, 1 << 40}, extremes...) {
		list = append(list, signal(n, 500), signal(n, 0), signal(n, impl.MaxTime))
	}
	for _, n := range append([]int64{-1, impl.MaxTime + 1, -impl.MaxTime, 2 * impl.MaxTime, 1 << 32, 1 << 40}, extremes...) {
		for kind := range int64(8) {
			list = append(list, signal(1+kind, n))
		}
	}
	return list
}

// invalidLogs have a fault in the first, a middle or the last signal, or signals that are too many, or
// times that are not in order.
func invalidLogs() [][]impl.Signal {
	logs := [][]impl.Signal{}
	lawful := []impl.Signal{signal(1, 500), signal(2, 60500), signal(3, 240500), signal(4, 300500)}
	for _, bad := range badSignals() {
		logs = append(logs, []impl.Signal{bad}, slices.Repeat([]impl.Signal{bad}, 40))
		for k := range lawful {
			list := slices.Clone(lawful)
			list[k] = bad
			logs = append(logs, list, slices.Insert(slices.Clone(lawful), k, bad))
		}
		logs = append(logs, with(lawful, bad.Kind, bad.Time), append(pauses(39, 500), bad))
	}
	for _, n := range []int{41, 42, 80, 1000} {
		logs = append(logs, pauses(n, 0), pauses(n, impl.MaxTime), slices.Repeat(lawful[:1], n), make([]impl.Signal, n))
	}
	for k := range lawful[1:] {
		early := slices.Clone(lawful)
		early[k+1].Time = early[k].Time - 1
		exchanged := slices.Clone(lawful)
		exchanged[k], exchanged[k+1] = exchanged[k+1], exchanged[k]
		logs = append(logs, early, exchanged)
	}
	return append(logs, []impl.Signal{signal(5, 1), signal(6, 0)}, []impl.Signal{signal(5, impl.MaxTime), signal(6, 0)}, []impl.Signal{signal(8, 9), signal(8, 8)}, []impl.Signal{signal(5, 5), signal(6, 7), signal(5, 6)})
}

// randomLog is a log that need not be lawful.
func randomLog(random *rand.Rand) []impl.Signal {
	list := []impl.Signal{}
	step := []int64{1, 3, 70000, impl.MaxTime / 40}[random.Intn(4)]
	time := random.Int63n(step)
	for range random.Intn(impl.MaxSignals + 1) {
		list = append(list, signal(1+random.Int63n(8), time))
		time += random.Int63n(step)
	}
	return list
}

func checkIsSignals(t *testing.T, list []impl.Signal, want bool) {
	t.Helper()
	if is := impl.IsSignals(list); is != want || isExpectedLog(list) != want {
		t.Fatalf("IsSignals(%v) = %v, want %v", list, is, want)
	}
}

func TestSignalConstants(t *testing.T) {
	for kind, n := range []int{0, impl.SignalWarning, impl.SignalPrep, impl.SignalMinute, impl.SignalStart, impl.SignalPostpone, impl.SignalResume, impl.SignalRecall, impl.SignalAbandon} {
		if kind != n {
			t.Errorf("the kind %d has the number %d", kind, n)
		}
	}
	if impl.MaxSignals != 40 || impl.MinuteTime != 60000 {
		t.Error(impl.MaxSignals, impl.MinuteTime)
	}
}

func TestIsSignals(t *testing.T) {
	checkIsSignals(t, nil, true)
	checkIsSignals(t, []impl.Signal{}, true)
	for kind := int64(-2); kind <= 11; kind++ {
		for _, time := range []int64{0, 1, 777, impl.MaxTime - 1, impl.MaxTime} {
			checkIsSignals(t, []impl.Signal{signal(kind, time)}, 1 <= kind && kind <= 8)
		}
		for _, time := range []int64{-2, -1, impl.MaxTime + 1, impl.MaxTime + 2} {
			checkIsSignals(t, []impl.Signal{signal(kind, time)}, false)
		}
	}
	for _, row := range []struct {
		first, second, third int64
		want                 bool
	}{
		{5, 5, 5, true}, {5, 5, 6, true}, {5, 6, 6, true}, {5, 6, 7, true}, {0, 0, 0, true}, {0, impl.MaxTime, impl.MaxTime, true},
		{5, 4, 4, false}, {5, 4, 5, false}, {5, 4, 6, false}, {5, 5, 4, false}, {5, 6, 5, false}, {5, 7, 6, false}, {4, 6, 5, false}, {1, 0, 0, false}, {0, impl.MaxTime, impl.MaxTime - 1, false}, {impl.MaxTime, 0, 0, false},
		{-1, 0, 0, false}, {0, -1, 0, false}, {0, 0, -1, false}, {0, 0, impl.MaxTime + 1, false}, {impl.MaxTime + 1, impl.MaxTime + 1, impl.MaxTime + 1, false},
	} {
		for kind := int64(1); kind <= 8; kind++ {
			checkIsSignals(t, []impl.Signal{signal(kind, row.first), signal(9-kind, row.second), signal(1+kind%8, row.third)}, row.want)
		}
	}
	for n := range 60 {
		for _, time := range []int64{0, 60000, impl.MaxTime} {
			checkIsSignals(t, pauses(n, time), n <= impl.MaxSignals)
		}
	}
}

func TestLogsThatAreAndThatAreNot(t *testing.T) {
	for _, list := range invalidLogs() {
		checkIsSignals(t, list, false)
	}
	random := rand.New(rand.NewSource(70))
	for range 3000 {
		list := randomLog(random)
		checkIsSignals(t, list, true)
		if len(list) == 0 {
			continue
		}
		k := random.Intn(len(list))
		list[k].Time += random.Int63n(5) - 2
		checkIsSignals(t, list, isExpectedLog(list))
		list[k].Kind += random.Int63n(5) - 2
		checkIsSignals(t, list, isExpectedLog(list))
	}
}
