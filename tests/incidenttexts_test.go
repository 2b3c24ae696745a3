package tests

import (
	"fmt"
	"math/rand"
	"regexp"
	"strconv"
	"strings"
	"testing"

	"loop.example/g00887/impl"
)

// keeperWords are those of the reasons with a keeper.
var keeperWords = map[int64]string{impl.ReasonTurning: "turning", impl.ReasonOpposite: "port", impl.ReasonAstern: "astern", impl.ReasonWindward: "windward"}

// expectedIncidentText returns the empty text for an incident that has none.
func expectedIncidentText(x impl.Incident) string {
	if x.Time < 0 || x.Time > impl.MaxTime || x.First < 0 || x.First >= x.Second || x.Second >= impl.MaxBoats {
		return ""
	}
	text := fmt.Sprintf("%d:%02d.%03d %d %d", x.Time/60000, x.Time/1000%60, x.Time%1000, x.First, x.Second)
	word, hasKeeper := keeperWords[x.Reason]
	switch {
	case hasKeeper && (x.Keeper == x.First || x.Keeper == x.Second):
		return fmt.Sprintf("%s %d %s", text, x.Keeper, word)
	case x.Keeper == -1 && x.Reason == impl.ReasonUnclear:
		return text + " unclear"
	}
	return ""
}

var incidentForm = regexp.MustCompile(`\A([0-9:.]+) ([0-9]|1[0-5]) ([0-9]|1[0-5]) (?:(unclear)|([0-9]|1[0-5]) (turning|port|astern|windward))\z`)

// expectedRead reads a text by a rule of its own, so that ReadIncident is not compared with IncidentText.
func expectedRead(s string) (impl.Incident, bool) {
	parts := incidentForm.FindStringSubmatch(s)
	if parts == nil {
		return impl.Incident{}, false
	}
	time, isTime := expectedTime(parts[1])
	first, _ := strconv.ParseInt(parts[2], 10, 64)
	second, _ := strconv.ParseInt(parts[3], 10, 64)
	if !isTime || first >= second {
		return impl.Incident{}, false
	}
	if parts[4] != "" {
		return impl.Incident{Time: time, First: first, Second: second, Keeper: -1, Reason: impl.ReasonUnclear}, true
	}
	keeper, _ := strconv.ParseInt(parts[5], 10, 64)
	if keeper != first && keeper != second {
		return impl.Incident{}, false
	}
	for reason, word := range keeperWords {
		if word == parts[6] {
			return impl.Incident{Time: time, First: first, Second: second, Keeper: keeper, Reason: reason}, true
		}
	}
	return impl.Incident{}, false
}

// checkIncidentText checks what is read from a text, whether an incident has it or not.
func checkIncidentText(t *testing.T, s string) bool {
	t.Helper()
	want, wantOK := expectedRead(s)
	if x, ok := impl.ReadIncident(s); x != want || ok != wantOK {
		t.Fatalf("ReadIncident(%q) = %v, %v, want %v, %v", s, x, ok, want, wantOK)
	}
	return wantOK
}

// checkIncident checks the text of an incident and, if it has one, that it is read from it.
func checkIncident(t *testing.T, x impl.Incident) string {
	t.Helper()
	s := impl.IncidentText(x)
	if want := expectedIncidentText(x); s != want {
		t.Fatalf("IncidentText(%v) = %q, want %q", x, s, want)
	}
	if read, ok := impl.ReadIncident(s); s != "" && (!ok || read != x) {
		t.Fatalf("of the text of %v, %v is read, %v", x, read, ok)
	}
	checkIncidentText(t, s)
	return s
}

// incident makes one of all its fields.
func incident(time, first, second, keeper, reason int64) impl.Incident {
	return impl.Incident{Time: time, First: first, Second: second, Keeper: keeper, Reason: reason}
}

func TestIncidentText(t *testing.T) {
	for _, row := range []struct {
		x    impl.Incident
		want string
	}{
		{incident(12000, 0, 3, 3, impl.ReasonWindward), "0:12.000 0 3 3 windward"},
		{incident(12000, 0, 3, -1, impl.ReasonUnclear), "0:12.000 0 3 unclear"},
		{incident(12000, 0, 3, 0, impl.ReasonWindward), "0:12.000 0 3 0 windward"},
		{incident(0, 0, 1, 0, impl.ReasonTurning), "0:00.000 0 1 0 turning"},
		{incident(0, 0, 1, 1, impl.ReasonOpposite), "0:00.000 0 1 1 port"},
		{incident(65004, 2, 10, 10, impl.ReasonAstern), "1:05.004 2 10 10 astern"},
		{incident(65004, 2, 10, 2, impl.ReasonTurning), "1:05.004 2 10 2 turning"},
		{incident(impl.MaxTime, 14, 15, 15, impl.ReasonOpposite), "16666:40.000 14 15 15 port"},
		{incident(impl.MaxTime, 0, 15, -1, impl.ReasonUnclear), "16666:40.000 0 15 unclear"},
		{incident(-1, 0, 3, 3, impl.ReasonWindward), ""},
		{incident(impl.MaxTime+1, 0, 3, 3, impl.ReasonWindward), ""},
		{incident(-1, 0, 3, -1, impl.ReasonUnclear), ""},
		{incident(impl.MaxTime+1, 0, 3, -1, impl.ReasonUnclear), ""},
		{incident(5, 3, 3, 3, impl.ReasonWindward), ""},
		{incident(5, 0, 0, 0, impl.ReasonWindward), ""},
		{incident(5, 3, 3, -1, impl.ReasonUnclear), ""},
		{incident(5, 3, 0, 3, impl.ReasonWindward), ""},
		{incident(5, 3, 0, -1, impl.ReasonUnclear), ""},
		{incident(5, -1, 3, 3, impl.ReasonWindward), ""},
		{incident(5, -1, 3, -1, impl.ReasonWindward), ""},
		{incident(5, -1, 3, -1, impl.ReasonUnclear), ""},
		{incident(5, 0, 16, 0, impl.ReasonWindward), ""},
		{incident(5, 0, 16, 16, impl.ReasonWindward), ""},
		{incident(5, 0, 16, -1, impl.ReasonUnclear), ""},
		{incident(5, 16, 17, -1, impl.ReasonUnclear), ""},
		{incident(5, 0, 3, 1, impl.ReasonWindward), ""},
		{incident(5, 0, 3, 4, impl.ReasonWindward), ""},
		{incident(5, 0, 3, -2, impl.ReasonWindward), ""},
		{incident(5, 0, 3, -2, impl.ReasonUnclear), ""},
		{incident(5, 0, 3, 2, impl.ReasonUnclear), ""},
		{incident(5, 0, 3, 0, impl.ReasonUnclear), ""},
		{incident(5, 0, 3, 3, impl.ReasonUnclear), ""},
		{incident(5, 0, 3, 3, 0), ""},
		{incident(5, 0, 3, 3, 6), ""},
		{incident(5, 0, 3, -1, 0), ""},
		{incident(5, 0, 3, -1, impl.ReasonTurning), ""},
		{incident(5, 0, 3, -1, impl.ReasonWindward), ""},
		{incident(5, 0, 3, -1, 6), ""},
		{impl.Incident{}, ""},
	} {
		if s := checkIncident(t, row.x); s != row.want {
			t.Errorf("IncidentText(%v) = %q, want %q", row.x, s, row.want)
		}
	}
}

// All pairs of numbers with all keepers and reasons.
func TestTextsOfAllIncidents(t *testing.T) {
	texts := map[string]bool{}
	for first := int64(-2); first <= impl.MaxBoats+1; first++ {
		for second := int64(-2); second <= impl.MaxBoats+1; second++ {
			for keeper := int64(-3); keeper <= impl.MaxBoats+1; keeper++ {
				for reason := int64(-1); reason <= 7; reason++ {
					if s := checkIncident(t, incident(60001, first, second, keeper, reason)); s != "" {
						texts[s] = true
					}
				}
			}
		}
	}
	// 120 pairs with four reasons for each of both keepers, or none.
	if len(texts) != 120*9 {
		t.Errorf("%d incidents have a text", len(texts))
	}
	for _, n := range append([]int64{1 << 32, 1<<32 + 1, -1 << 32}, extremes...) {
		for _, x := range []impl.Incident{incident(n, 0, 1, 0, 1), incident(5, n, 1, n, 1), incident(5, n, 1, 1, 1), incident(5, 0, n, n, 1), incident(5, 0, n, 0, 1), incident(5, 0, 1, n, 1), incident(5, 0, 1, n, 5), incident(5, 0, 1, 0, n), incident(5, 0, 1, -1, n)} {
			if s := checkIncident(t, x); s != "" {
				t.Errorf("IncidentText(%v) = %q", x, s)
			}
		}
	}
}

func randomIncident(random *rand.Rand) impl.Incident {
	time := random.Int63n([]int64{100, 100000, impl.MaxTime + 1}[random.Intn(3)])
	first := random.Int63n(impl.MaxBoats - 1)
	second := first + 1 + random.Int63n(impl.MaxBoats-1-first)
	if random.Intn(3) == 0 {
		return incident(time, first, second, -1, impl.ReasonUnclear)
	}
	return incident(time, first, second, []int64{first, second}[random.Intn(2)], 1+random.Int63n(4))
}

func TestIncidentsAreReadFromTheirTexts(t *testing.T) {
	random := rand.New(rand.NewSource(69))
	for range 20000 {
		if s := checkIncident(t, randomIncident(random)); !checkIncidentText(t, s) {
			t.Fatalf("%q is not read", s)
		}
	}
}

func TestReadIncidentRefusesOtherTexts(t *testing.T) {
	for _, s := range []string{
		"", " ", "  ", "   ", "    ", "     ", "0:12.000", "0:12.000 ", "0:12.000 0", "0:12.000 0 3", "0:12.000 0 3 ", "0:12.000 0 3 3", "0:12.000 0 3 3 ", "0:12.000 0 3  ", "unclear", "windward", "0 3 unclear", " 0 3 unclear", "0 3 3 windward",
		"0:12.000 0 3 -1 unclear", "0:12.000 0 3 0 unclear", "0:12.000 0 3 3 unclear", "0:12.000 0 3 1 unclear", "0:12.000 0 3 windward", "0:12.000 0 3 -1 windward", "0:12.000 0 3  unclear", "0:12.000 0 3  windward",
		"0:12.000 0 3 2 windward", "0:12.000 0 3 4 windward", "0:12.000 0 3 16 windward", "0:12.000 3 0 3 windward", "0:12.000 3 3 3 windward", "0:12.000 3 3 unclear", "0:12.000 3 0 unclear", "0:12.000 -1 3 unclear", "0:12.000 -1 3 -1 windward", "0:12.000 0 16 unclear", "0:12.000 0 16 16 windward", "0:12.000 0 16 0 windward",
		"0:12.000  0 3 unclear", "0:12.000 0  3 unclear", " 0:12.000 0 3 unclear", "0:12.000 0 3 unclear ", "0:12.000 0 3 unclear\n", "\n0:12.000 0 3 unclear", "0:12.000\t0 3 unclear", "0:12.000 0\n3 unclear", "0:12.000 0 3unclear", "0:12.0000 3 unclear", "0:12.000 03 unclear",
		"0:12.000 0 3 3  windward", "0:12.000 0 3 3 windward ", "0:12.000 0 3 3 windward windward", "0:12.000 0 3 3 windward 3", "0:12.000 0 3 3 3 windward", "0:12.000 0 3 unclear unclear", "0:12.000 0 3 unclear windward", "0:12.000 0 3 3 0:12.000", "0:12.000 0:12.000 0 3 unclear",
		"0:12.000 00 3 unclear", "0:12.000 0 03 unclear", "0:12.000 +0 3 unclear", "0:12.000 -0 3 unclear", "0:12.000 0 +3 unclear", "0:12.000 0 3 +3 windward", "0:12.000 0 3 03 windward", "0:12.000 0 3 -0 windward", "0:12.000 0 0x3 unclear", "0:12.000 0 3. unclear", "0:12.000 0 3.0 unclear", "0:12.000 0 1e0 unclear", "0:12.000 0 1_0 unclear",
		"00:12.000 0 3 unclear", "0:12.00 0 3 unclear", "0:12 0 3 unclear", "12.000 0 3 unclear", "12000 0 3 unclear", "0:60.000 0 3 unclear", "-0:12.000 0 3 unclear", "+0:12.000 0 3 unclear", "16666:40.001 0 3 unclear", "16667:00.000 0 3 unclear", "0:12,000 0 3 unclear", "x 0 3 unclear", "0:12.000 x 3 unclear", "0:12.000 0 x unclear", "0:12.000 0 3 x windward",
		"0:12.000 0 3 Unclear", "0:12.000 0 3 UNCLEAR", "0:12.000 0 3 3 Windward", "0:12.000 0 3 3 WINDWARD", "0:12.000 0 3 3 Port", "0:12.000 0 3 3 starboard", "0:12.000 0 3 3 opposite", "0:12.000 0 3 3 none", "0:12.000 0 3 3 inside", "0:12.000 0 3 3 4", "0:12.000 0 3 5",
		"0:12.000 0 18446744073709551619 unclear", "0:12.000 18446744073709551616 3 unclear", "0:12.000 0 4294967299 unclear", "0:12.000 4294967296 3 unclear", "0:12.000 0 3 18446744073709551619 windward", "0:12.000 0 9223372036854775807 unclear", "0:12.000 -9223372036854775808 3 unclear", "0:12.000 0 3 99999999999999999999 windward",
		"\ufeff0:12.000 0 3 unclear", "0:12.000\u00a00 3 unclear", "0:12.000 0 \uff13 unclear", "0:12.000 0 3 un\u0441lear", "0:12.000 0 3 unclear\x00", "\x000:12.000 0 3 unclear", "0:12.000 0 3\x00unclear",
		strings.Repeat(" ", 1000), strings.Repeat("0 ", 1000), strings.Repeat("0:12.000 0 3 unclear ", 100), "0:12.000 0 3 " + strings.Repeat("unclear", 100), "0:12.000 0 3 " + strings.Repeat("3 ", 100) + "windward",
	} {
		if x, ok := impl.ReadIncident(s); ok || x != (impl.Incident{}) {
			t.Errorf("ReadIncident(%q) = %v, %v", s, x, ok)
		}
		checkIncidentText(t, s)
	}
}

func TestSpoiltIncidentTexts(t *testing.T) {
	read := 0
	for _, s := range []string{
		"0:12.000 0 3 3 windward", "0:12.000 0 3 unclear", "0:12.000 0 3 0 port", "16666:40.000 14 15 15 turning", "10:09.999 1 10 1 astern", "10:09.999 1 10 10 astern", "0:00.000 0 1 unclear", "1:00.000 11 12 unclear",
	} {
		if !checkIncidentText(t, s) {
			t.Errorf("%q is a text", s)
		}
		for _, spoilt := range spoiltTexts(s) {
			if checkIncidentText(t, spoilt) {
				read++
			}
			checkIncidentText(t, strings.ToUpper(spoilt))
			checkIncidentText(t, strings.ToTitle(spoilt))
		}
		for k := range s {
			for b := range 256 {
				checkIncidentText(t, s[:k]+string([]byte{byte(b)})+s[k:])
				checkIncidentText(t, s[:k]+string([]byte{byte(b)})+s[k+1:])
			}
			for n := range s {
				checkIncidentText(t, s[:k]+s[n:])
			}
		}
	}
	// Other digits make other texts.
	if read < 100 {
		t.Errorf("only %d texts are read", read)
	}
}

// Every choice of words is a text only if an incident has it.
func TestWordsOfIncidents(t *testing.T) {
	read := 0
	for _, time := range []string{"", "0:12.000", "0:12.0", "16666:40.001"} {
		for _, first := range []string{"", "-1", "0", "1", "01", "15"} {
			for _, second := range []string{"", "0", "1", "15", "16", "+1"} {
				for _, keeper := range []string{"", " ", "-1 ", "0 ", "1 ", "15 ", "2 ", "00 "} {
					for _, word := range []string{"", "turning", "port", "astern", "windward", "unclear", "none", "0", "Port"} {
						if checkIncidentText(t, time+" "+first+" "+second+" "+keeper+word) {
							read++
						}
					}
				}
			}
		}
	}
	// Of the pairs 0 1, 0 15 and 1 15.
	if read != 3*9 {
		t.Errorf("%d texts are read", read)
	}
}
