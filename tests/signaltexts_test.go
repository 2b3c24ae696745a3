package tests

import (
	"fmt"
	"math/rand"
	"slices"
	"strings"
	"testing"

	"loop.example/g00887/impl"
)

// checkSignalsText checks what is read from a text, whether a log has it or not.
func checkSignalsText(t *testing.T, s string) bool {
	t.Helper()
	want, wantOK := expectedLog(s)
	if list, ok := impl.ReadSignals(s); !slices.Equal(list, want) || ok != wantOK {
		t.Fatalf("ReadSignals(%q) = %v, %v, want %v, %v", s, list, ok, want, wantOK)
	}
	return wantOK
}

// checkLogText checks the text of a log, and that the log is read from it. It returns the text.
func checkLogText(t *testing.T, list []impl.Signal) string {
	t.Helper()
	want := ""
	for k, x := range list {
		if k > 0 {
			want += " "
		}
		want += fmt.Sprintf("%s@%d", signalKinds[x.Kind], x.Time)
	}
	s := impl.SignalsText(list)
	if s != want {
		t.Fatalf("SignalsText(%v) = %q, want %q", list, s, want)
	}
	if read, ok := impl.ReadSignals(s); !ok || !slices.Equal(read, list) {
		t.Fatalf("of the text of %v, %v is read, %v", list, read, ok)
	}
	checkSignalsText(t, s)
	return s
}

func refuseSignalsText(t *testing.T, s string) {
	t.Helper()
	if list, ok := impl.ReadSignals(s); ok || len(list) != 0 {
		t.Fatalf("ReadSignals(%q) = %v, %v", s, list, ok)
	}
	checkSignalsText(t, s)
}

func TestSignalsText(t *testing.T) {
	for _, row := range []struct {
		list []impl.Signal
		want string
	}{
		{nil, ""}, {[]impl.Signal{}, ""},
		{[]impl.Signal{signal(impl.SignalWarning, 0)}, "warning@0"},
		{[]impl.Signal{signal(impl.SignalPrep, 60000)}, "prep@60000"},
		{[]impl.Signal{signal(impl.SignalMinute, 7)}, "minute@7"},
		{[]impl.Signal{signal(impl.SignalStart, 300000)}, "start@300000"},
		{[]impl.Signal{signal(impl.SignalPostpone, 10)}, "postpone@10"},
		{[]impl.Signal{signal(impl.SignalResume, 999)}, "resume@999"},
		{[]impl.Signal{signal(impl.SignalRecall, impl.MaxTime)}, "recall@1000000000"},
		{[]impl.Signal{signal(impl.SignalAbandon, impl.MaxTime-1)}, "abandon@999999999"},
		{[]impl.Signal{signal(5, 5), signal(6, 9), signal(1, 60009)}, "postpone@5 resume@9 warning@60009"},
		{[]impl.Signal{signal(1, 0), signal(2, 60000), signal(3, 240000), signal(4, 300000)}, "warning@0 prep@60000 minute@240000 start@300000"},
		// A log need not be lawful.
		{[]impl.Signal{signal(8, 1), signal(8, 1), signal(7, 2), signal(4, 2)}, "abandon@1 abandon@1 recall@2 start@2"},
	} {
		if s := checkLogText(t, row.list); s != row.want {
			t.Errorf("SignalsText(%v) = %q, want %q", row.list, s, row.want)
		}
	}
	for _, list := range invalidLogs() {
		if s := impl.SignalsText(list); s != "" {
			t.Fatalf("SignalsText(%v) = %q", list, s)
		}
	}
}

func TestTextsOfAllSignals(t *testing.T) {
	for kind := int64(1); kind <= 8; kind++ {
		for _, time := range []int64{0, 1, 9, 10, 11, 99, 100, 101, 59999, 60000, 100000, 1000000, 99999999, 999999999, impl.MaxTime} {
			checkLogText(t, []impl.Signal{signal(kind, time)})
			for other := int64(1); other <= 8; other++ {
				checkLogText(t, []impl.Signal{signal(kind, time), signal(other, time), signal(9-kind, max(time, 60000))})
			}
		}
	}
	for n := range impl.MaxSignals + 1 {
		checkLogText(t, pauses(n, 0))
		checkLogText(t, pauses(n, impl.MaxTime))
	}
	eachLogInAState(t, func(_ string, list []impl.Signal) { checkLogText(t, list) })
}

func TestLogsAreReadFromTheirTexts(t *testing.T) {
	random := rand.New(rand.NewSource(77))
	lengths := map[int]bool{}
	for range 5000 {
		list := randomLog(random)
		checkLogText(t, list)
		lengths[len(list)] = true
		checkLogText(t, randomLawful(random, random.Intn(impl.MaxSignals+1)))
	}
	if len(lengths) != impl.MaxSignals+1 {
		t.Errorf("the logs have %d lengths", len(lengths))
	}
}

func TestReadSignalsRefusesOtherTexts(t *testing.T) {
	for _, s := range []string{
		" ", "  ", "@", "@@", "0", "@0", " @0", "x@1", "warning", "warning@", "warning 0", "warning0", "warning@ 0", "warning @0", "warning@@0", "@warning", "0@warning", "warning@0@", "warning@0@0", "@warning@0", "warning@0 @", "warning@0 @0", "warning:0", "warning=0", "warning-0",
		"Warning@0", "WARNING@0", "warninG@0", "prep@0 Prep@0", "warnin@0", "warnings@0", "warn@0", "awarning@0", "preparatory@0", "min@0", "minutes@0", "started@0", "postponed@0", "resumed@0", "recal@0", "recalled@0", "abandoned@0", "none@0", "idle@0", "finish@0", "1@0", "8@0",
		"warning@00", "warning@01", "warning@+0", "warning@+1", "warning@-0", "warning@-1", "warning@1.0", "warning@1e3", "warning@0x1", "warning@1_0", "warning@1,0", "warning@0:01.000", "warning@a", "warning@ ", "warning@1a", "warning@\uff11", "warning@\u0661",
		"warning@1000000001", "warning@1000000010", "warning@4294967296", "warning@9223372036854775807", "warning@9223372036854775808", "warning@18446744073709551616", "warning@18446744073709551617", "warning@99999999999999999999", "warning@-9223372036854775808", "warning@-9223372036854775809", "warning@" + strings.Repeat("9", 400), "warning@" + strings.Repeat("0", 400),
		"postpone@5 resume@4", "resume@9 postpone@5", "postpone@5 resume@9 postpone@8", "warning@10 prep@9", "warning@1000000000 prep@0",
		" warning@0", "warning@0 ", "warning@0  prep@60000", " warning@0 prep@60000", "warning@0 prep@60000 ", "warning@0\tprep@60000", "warning@0\nprep@60000", "warning@0\n", "\nwarning@0", "warning@0\r\n", "warning@0,prep@60000", "warning@0prep@60000", "warning@0 prep", "warning@0 60000", "warning@0 prep@", "warning prep@0", "warning@0 prep @60000", "warning@0 prep@60000 x",
		"\x00", "\x00warning@0", "warning@0\x00", "warning\x00@0", "\ufeffwarning@0", "warning\uff200", "warning@0\u00a0prep@60000", "w\u0430rning@0", "\xff", "warning@\xff", "\n",
		strings.Repeat(" ", 39), strings.Repeat(" ", 40), strings.Repeat(" ", 1000), strings.Repeat("@", 1000), strings.Repeat("warning@0", 40), strings.Repeat("warning@0 ", 40), strings.Repeat("warning", 1000),
	} {
		refuseSignalsText(t, s)
	}
	for _, bad := range badSignals() {
		refuseSignalsText(t, fmt.Sprintf("%d@%d", bad.Kind, bad.Time))
		if bad.Kind >= 1 && bad.Kind <= 8 {
			refuseSignalsText(t, fmt.Sprintf("%s@%d", signalKinds[bad.Kind], bad.Time))
			refuseSignalsText(t, fmt.Sprintf("postpone@0 %s@%d", signalKinds[bad.Kind], bad.Time))
		}
	}
}

func TestTextsOfTooManySignals(t *testing.T) {
	for _, word := range []string{"warning@0", "postpone@7", "abandon@1000000000"} {
		for n := 1; n <= 200; n++ {
			s := strings.TrimSuffix(strings.Repeat(word+" ", n), " ")
			if read := checkSignalsText(t, s); read != (n <= impl.MaxSignals) {
				t.Fatalf("a text of %d signals is read, or not: %v", n, read)
			}
			refuseSignalsText(t, s+" ")
			refuseSignalsText(t, s+" x")
			refuseSignalsText(t, s+" "+word+"@")
		}
		refuseSignalsText(t, strings.TrimSuffix(strings.Repeat(word+" ", 100000), " "))
	}
}

// Texts with a byte more, a byte less or another one: each of them has a log only if it has the form.
func TestSpoiltSignalsTexts(t *testing.T) {
	read := 0
	for _, s := range []string{
		"warning@0", "prep@60000", "minute@240000", "start@1000000000", "postpone@5", "resume@9", "recall@10", "abandon@999999999",
		"postpone@5 resume@9 warning@60009", "warning@1 prep@60001 minute@240001 start@300001 recall@300011 abandon@300011",
	} {
		if !checkSignalsText(t, s) {
			t.Errorf("%q is a text", s)
		}
		for _, spoilt := range spoiltTexts(s) {
			if checkSignalsText(t, spoilt) {
				read++
			}
			checkSignalsText(t, strings.ToUpper(spoilt))
		}
		for k := range len(s) + 1 {
			for b := range 256 {
				checkSignalsText(t, s[:k]+string([]byte{byte(b)})+s[k:])
				if k < len(s) {
					checkSignalsText(t, s[:k]+string([]byte{byte(b)})+s[k+1:])
				}
			}
			for n := range len(s) + 1 {
				checkSignalsText(t, s[:k]+s[n:])
			}
		}
	}
	// Other digits make other texts.
	if read < 100 {
		t.Errorf("only %d texts are read", read)
	}
}

// Every choice of words and numbers is a text only if a log has it.
func TestWordsOfSignals(t *testing.T) {
	read := 0
	parts := []string{"", "@", "0", "9"}
	for _, word := range append(slices.Clone(signalKinds), "Warning", "x") {
		for _, number := range []string{"", "0", "9", "01", "-1", "1000000001"} {
			parts = append(parts, word+"@"+number)
		}
	}
	for _, first := range parts {
		for _, second := range parts {
			for _, between := range []string{"", " ", "  ", "@"} {
				if checkSignalsText(t, first+between+second) {
					read++
				}
			}
		}
	}
	// Two signals at 0 or 9, the later one not first: 64 * 3. One signal with nothing behind it or before
	// it: 16 * 2. Nothing at all: 1. A digit behind a word with its @, or behind the time 9: 8 * 2 each.
	if read != 64*3+16*2+1+8*2+8*2 {
		t.Errorf("%d texts are read", read)
	}
}
