package tests

import (
	"math/rand"
	"slices"
	"testing"

	"loop.example/g00887/impl"
)

// expectedCountdown is for lawful logs, and for times at which a signal can follow.
func expectedCountdown(list []impl.Signal, time int64) (int64, int64) {
	state, _ := expectedState(list)
	if !slices.Contains([]string{"warned", "prepared", "last minute"}, state) {
		return 0, impl.ErrState
	}
	if left := timeOfLast(list, impl.SignalWarning) + 300000 - time; left >= 0 {
		return left, impl.ErrNone
	}
	return 0, impl.ErrNotFound
}

// checkCountdown returns the countdown and the code.
func checkCountdown(t *testing.T, list []impl.Signal, time int64) (int64, int64) {
	t.Helper()
	want, wantCode := expectedCountdown(list, time)
	if left, code := impl.CountdownAt(list, time); left != want || code != wantCode {
		t.Fatalf("CountdownAt(%v, %d) = %d, %d, want %d, %d", list, time, left, code, want, wantCode)
	}
	return want, wantCode
}

func refuseCountdown(t *testing.T, list []impl.Signal, time, want int64) {
	t.Helper()
	if left, code := impl.CountdownAt(list, time); left != 0 || code != want {
		t.Fatalf("CountdownAt(%v, %d) = %d, %d, want the code %d", list, time, left, code, want)
	}
}

func TestCountdownAt(t *testing.T) {
	const started = "warning@500 prep@60500 minute@240500 start@300500"
	for _, row := range []struct {
		text string
		time int64
		want int64
		code int64
	}{
		{"warning@500", 500, 300000, impl.ErrNone}, {"warning@500", 501, 299999, impl.ErrNone}, {"warning@500", 60500, 240000, impl.ErrNone}, {"warning@500", 60501, 239999, impl.ErrNone}, {"warning@500", 300499, 1, impl.ErrNone}, {"warning@500", 300500, 0, impl.ErrNone}, {"warning@500", 300501, 0, impl.ErrNotFound}, {"warning@500", impl.MaxTime, 0, impl.ErrNotFound},
		{"warning@500 prep@60500", 60500, 240000, impl.ErrNone}, {"warning@500 prep@60500", 100000, 200500, impl.ErrNone}, {"warning@500 prep@60500", 300500, 0, impl.ErrNone}, {"warning@500 prep@60500", 300501, 0, impl.ErrNotFound},
		{"warning@500 prep@60500 minute@240500", 240500, 60000, impl.ErrNone}, {"warning@500 prep@60500 minute@240500", 300499, 1, impl.ErrNone}, {"warning@500 prep@60500 minute@240500", 300500, 0, impl.ErrNone}, {"warning@500 prep@60500 minute@240500", 300501, 0, impl.ErrNotFound},
		{"", 0, 0, impl.ErrState}, {"", impl.MaxTime, 0, impl.ErrState}, {started, 300500, 0, impl.ErrState}, {started, 300501, 0, impl.ErrState}, {"postpone@500", 500, 0, impl.ErrState}, {"warning@500 postpone@600", 600, 0, impl.ErrState}, {"warning@500 postpone@600 resume@700", 700, 0, impl.ErrState}, {"warning@500 postpone@600 resume@700", 300501, 0, impl.ErrState},
		{started + " recall@310000", 310000, 0, impl.ErrState}, {"abandon@500", 500, 0, impl.ErrState}, {"warning@500 abandon@600", 600, 0, impl.ErrState},
		// Only the last warning counts.
		{started + " recall@310000 warning@370000", 370000, 300000, impl.ErrNone}, {started + " recall@310000 warning@370000", 670000, 0, impl.ErrNone}, {started + " recall@310000 warning@370000", 670001, 0, impl.ErrNotFound}, {started + " recall@310000 warning@370000 prep@430000", 430000, 240000, impl.ErrNone}, {"warning@500 postpone@600 resume@700 warning@60700", 300501, 60199, impl.ErrNone},
		// The start that is due may be later than all times.
		{"warning@1000000000", impl.MaxTime, 300000, impl.ErrNone}, {"warning@999999990", impl.MaxTime, 299990, impl.ErrNone}, {"warning@999700001", impl.MaxTime, 1, impl.ErrNone}, {"warning@999700000", impl.MaxTime, 0, impl.ErrNone}, {"warning@999699999", impl.MaxTime, 0, impl.ErrNotFound},
		{"warning@0", 0, 300000, impl.ErrNone}, {"warning@0", 300000, 0, impl.ErrNone}, {"warning@0", 300001, 0, impl.ErrNotFound},
	} {
		if left, code := checkCountdown(t, logOf(t, row.text), row.time); left != row.want || code != row.code {
			t.Errorf("CountdownAt of %q at %d = %d, %d, want %d, %d", row.text, row.time, left, code, row.want, row.code)
		}
	}
}

func TestCountdownsInAllStates(t *testing.T) {
	codes := map[string]map[int64]int{}
	eachLogInAState(t, func(state string, list []impl.Signal) {
		if codes[state] == nil {
			codes[state] = map[int64]int{}
		}
		for _, time := range possibleTimes(list) {
			_, code := checkCountdown(t, list, time)
			codes[state][code]++
		}
		// The time comes ahead of the state.
		for _, time := range timesBefore(list) {
			refuseCountdown(t, list, time, impl.ErrRange)
		}
	})
	for state, counts := range codes {
		isStarting := slices.Contains([]string{"warned", "prepared", "last minute"}, state)
		if (counts[impl.ErrNone] > 0) != isStarting || (counts[impl.ErrNotFound] > 0) != isStarting || (counts[impl.ErrState] > 0) == isStarting {
			t.Errorf("codes in the state %s: %v", state, counts)
		}
	}
}

// Waiting shortens a countdown by the time that passes.
func TestCountdownsGetShorter(t *testing.T) {
	random := rand.New(rand.NewSource(76))
	waited := 0
	for range 3000 {
		list := randomLawful(random, 1+random.Intn(impl.MaxSignals))
		now := list[len(list)-1].Time
		before, code := checkCountdown(t, list, now)
		if code != impl.ErrNone {
			continue
		}
		waited++
		for _, wait := range []int64{0, 1, random.Int63n(before + 1), random.Int63n(before + 1), before} {
			if left, code := impl.CountdownAt(list, now+wait); left != before-wait || code != impl.ErrNone {
				t.Fatalf("CountdownAt(%v, %d) = %d, %d, but %d before it is %d", list, now+wait, left, code, wait, before)
			}
		}
		refuseCountdown(t, list, now+before+1, impl.ErrNotFound)
	}
	if waited < 500 {
		t.Errorf("only %d logs have a countdown", waited)
	}
}

func TestCountdownAtRefuses(t *testing.T) {
	for _, list := range invalidLogs() {
		for _, time := range []int64{-1, 0, 500, 300500, impl.MaxTime, impl.MaxTime + 1} {
			refuseCountdown(t, list, time, impl.ErrInvalid)
		}
	}
	for _, list := range unlawfulLogs(t) {
		for _, time := range slices.Concat(possibleTimes(list), timesBefore(list)) {
			refuseCountdown(t, list, time, impl.ErrState)
		}
	}
	for _, time := range timesBefore(nil) {
		refuseCountdown(t, nil, time, impl.ErrRange)
	}
}
