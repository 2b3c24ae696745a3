package tests

import (
	"slices"
	"testing"

	"loop.example/g00887/impl"
)

// roomyLog is a log with spare capacity, and all of its memory.
func roomyLog(list []impl.Signal) ([]impl.Signal, []impl.Signal) {
	memory := slices.Clone(list)
	for k := range int64(impl.MaxSignals) {
		memory = append(memory, signal(-k, 77-k))
	}
	return memory[:len(list)], memory
}

// overwriteSignals changes all the memory that a list has, its spare capacity included.
func overwriteSignals(list []impl.Signal) {
	list = list[:cap(list)]
	for k := range list {
		list[k] = signal(-9, -9)
	}
}

func TestSignalFunctionsKeepTheirArguments(t *testing.T) {
	logs := append(invalidLogs()[:60], unlawfulLogs(t)...)
	eachLogInAState(t, func(_ string, list []impl.Signal) { logs = append(logs, list) })
	for n := range impl.MaxSignals + 2 {
		logs = append(logs, pauses(n, 9))
	}
	for _, log := range logs {
		list, memory := roomyLog(log)
		kept := slices.Clone(memory)
		impl.IsSignals(list)
		impl.FirstUnlawful(list)
		impl.StartTime(list)
		impl.SignalsText(list)
		for _, time := range timesBehind(log) {
			impl.LawfulKinds(list, time)
			impl.CountdownAt(list, time)
		}
		if !slices.Equal(memory, kept) {
			t.Fatalf("the log %v is modified", log)
		}
	}
}

// Sequences that share memory with one another would change here.
func TestSequencesAreNew(t *testing.T) {
	for range 3 {
		for fleets := int64(1); fleets <= 8; fleets++ {
			all, _ := impl.FleetSequences(fleets, 1000)
			again, _ := impl.FleetSequences(fleets, 1000)
			one, _ := impl.SequenceFor(1000)
			for k, list := range all {
				want, _ := impl.SequenceFor(1000 + int64(k)*300000)
				if !slices.Equal(list, want) || !slices.Equal(again[k], want) || !slices.Equal(one, again[0]) && k == 0 {
					t.Fatalf("the sequence %d is %v and %v, want %v", k, list, again[k], want)
				}
				overwriteSignals(one)
				overwriteSignals(list)
			}
			clear(all[:cap(all)])
			checkSequences(t, fleets, 1000)
			for k := range slices.Backward(again) {
				// What is appended to a sequence does not reach the next one.
				longer := append(again[k], signal(-9, -9))
				if len(longer) != 5 || k+1 < len(again) && again[k+1][0] != signal(impl.SignalWarning, 1000+int64(k+1)*300000) {
					t.Fatalf("the sequences %v share memory", again)
				}
			}
		}
	}
}

func TestKindsAndReadSignalsAreNew(t *testing.T) {
	const text = "postpone@5 resume@9 warning@60009"
	want := logOf(t, text)
	for range 3 {
		list, _ := impl.ReadSignals(text)
		other, _ := impl.ReadSignals(text)
		kinds, _ := impl.LawfulKinds(list, 120009)
		otherKinds, _ := impl.LawfulKinds(other, 120009)
		overwriteSignals(list)
		overwriteNumbers(kinds)
		if !slices.Equal(other, want) || !slices.Equal(otherKinds, []int64{2, 5, 8}) {
			t.Fatalf("the log has changed to %v, and the kinds to %v", other, otherKinds)
		}
		overwriteSignals(other)
		overwriteNumbers(otherKinds)
		empty, ok := impl.ReadSignals("")
		if !ok || len(empty) != 0 {
			t.Fatalf("ReadSignals(\"\") = %v, %v", empty, ok)
		}
		overwriteSignals(empty)
		none, _ := impl.LawfulKinds([]impl.Signal{signal(impl.SignalAbandon, 0)}, 5)
		overwriteNumbers(none)
	}
}

// The same call has the same result, whatever is called between.
func TestSignalFunctionsKeepNothing(t *testing.T) {
	list := logOf(t, "warning@500 prep@60500 minute@240500 start@300500 recall@310000 warning@370000")
	others := append(invalidLogs()[:60], unlawfulLogs(t)...)
	eachLogInAState(t, func(_ string, log []impl.Signal) { others = append(others, log) })
	for _, other := range others {
		impl.FirstUnlawful(other)
		impl.LawfulKinds(other, 430000)
		impl.StartTime(other)
		impl.CountdownAt(other, 430000)
		impl.ReadSignals(impl.SignalsText(other))
		impl.FleetSequences(int64(len(other)), 5)
		checkKinds(t, list, 430000)
		checkCountdown(t, list, 430000)
		checkStart(t, list)
		checkLawful(t, list)
		checkLogText(t, list)
		checkSequences(t, 2, 500)
	}
}
