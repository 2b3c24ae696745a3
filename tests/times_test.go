package tests

import (
	"fmt"
	"regexp"
	"strconv"
	"strings"
	"testing"

	"loop.example/g00887/impl"
)

var timeExamples = []struct {
	time int64
	text string
}{
	{0, "0:00.000"}, {1, "0:00.001"}, {10, "0:00.010"}, {999, "0:00.999"}, {1000, "0:01.000"},
	{9999, "0:09.999"}, {10000, "0:10.000"}, {59999, "0:59.999"}, {60000, "1:00.000"},
	{65004, "1:05.004"}, {599999, "9:59.999"}, {600000, "10:00.000"}, {3600000, "60:00.000"},
	{5999999, "99:59.999"}, {6000000, "100:00.000"}, {60000000, "1000:00.000"},
	{600000000, "10000:00.000"}, {impl.MaxTime - 1, "16666:39.999"}, {impl.MaxTime, "16666:40.000"},
}

func checkTime(t *testing.T, time int64) {
	t.Helper()
	s := impl.TimeText(time)
	if want := fmt.Sprintf("%d:%02d.%03d", time/60000, time/1000%60, time%1000); s != want {
		t.Fatalf("TimeText(%d) = %q, want %q", time, s, want)
	}
	if x, ok := impl.ReadTime(s); !ok || x != time {
		t.Fatalf("ReadTime(%q) = %d, %v, want %d", s, x, ok, time)
	}
}

func TestTimesAreRecoveredFromTheirTexts(t *testing.T) {
	for _, c := range timeExamples {
		if s := impl.TimeText(c.time); s != c.text {
			t.Errorf("TimeText(%d) = %q, want %q", c.time, s, c.text)
		}
		if x, ok := impl.ReadTime(c.text); !ok || x != c.time {
			t.Errorf("ReadTime(%q) = %d, %v, want %d", c.text, x, ok, c.time)
		}
		checkTime(t, c.time)
	}
	for time := int64(0); time <= 130000; time++ {
		checkTime(t, time)
	}
	for time := int64(0); time <= impl.MaxTime; time += 9973 {
		checkTime(t, time)
	}
	for time := int64(impl.MaxTime - 70000); time <= impl.MaxTime; time++ {
		checkTime(t, time)
	}
}

func TestTimesOutOfRangeHaveNoText(t *testing.T) {
	for _, time := range append([]int64{-1, -999, -1000, -60000, -impl.MaxTime, impl.MaxTime + 1, 2 * impl.MaxTime}, extremes...) {
		if s := impl.TimeText(time); s != "" {
			t.Errorf("TimeText(%d) = %q, want none", time, s)
		}
	}
}

func TestTextsThatAreNoTime(t *testing.T) {
	for _, s := range []string{
		"", ":", ".", ":.", "0", "0:00", "0:00.", "0:.000", ":00.000", "00.000", "0.00:000",
		"1:65.000", "0:60.000", "0:99.999", "0:100.000", "0:00.1000", "0:000.000", "0:0.000",
		"0:00.00", "0:00.0", "1:5.004", "1:05.4", "1:05.04", "1:005.004", "1:05.0004",
		"00:00.000", "01:05.004", "001:05.004", "0001:05.004",
		"-1:05.004", "+1:05.004", "-0:00.000", "0:-1.000", "0:+1.000", "0:00.-01", "0:00.+01",
		" 1:05.004", "1:05.004 ", "1: 5.004", "1:05. 04", "1:05.004\n", "\n1:05.004", "1:05.004\x00",
		"1:05:004", "1.05.004", "1.05:004", "1:05,004", "1;05.004", "1:05.004.000", "1:1:05.004", "1::05.004", "1:05..004",
		"1_0:05.004", "0x1:05.004", "1e1:05.004", "a:05.004", "1:0a.004", "1:05.00a", "1:05.004ms",
		"\uff11:05.004", "1:05\u066b004", "\u0661:05.004", "\xff:05.004",
		"16666:40.001", "16666:41.000", "16667:00.000", "16666:60.000", "20000:00.000", "100000:00.000",
		// Minutes that a product in 32 or 64 bits wraps around to a valid time.
		"134217728:00.000", "134217729:05.004", "4294967296:00.000", "4294967297:05.004",
		"576460752303423488:00.000", "576460752303423489:05.004", "288230376151711744:00.000",
		"9223372036854775807:00.000", "9223372036854775808:00.000", "18446744073709551616:00.000", "18446744073709551617:05.004",
		"0:00.18446744073709551616", "0:18446744073709551617.000",
		strings.Repeat("0", 1000) + ":00.000", strings.Repeat("9", 1000) + ":00.000", strings.Repeat(":", 1000), strings.Repeat("1", 1000),
	} {
		if x, ok := impl.ReadTime(s); ok || x != 0 {
			t.Errorf("ReadTime(%q) = %d, %v, want 0 and false", s, x, ok)
		}
	}
}

var timeForm = regexp.MustCompile(`^(0|[1-9][0-9]{0,5}):([0-5][0-9])\.([0-9]{3})$`)

// expectedTime reads a text by a rule of its own, so that ReadTime is not compared with TimeText.
func expectedTime(s string) (int64, bool) {
	m := timeForm.FindStringSubmatch(s)
	if m == nil {
		return 0, false
	}
	parts := [3]int64{}
	for i := range parts {
		parts[i], _ = strconv.ParseInt(m[i+1], 10, 64)
	}
	time := parts[0]*60000 + parts[1]*1000 + parts[2]
	if time > impl.MaxTime {
		return 0, false
	}
	return time, true
}

func checkText(t *testing.T, s string) {
	t.Helper()
	want, wantOK := expectedTime(s)
	x, ok := impl.ReadTime(s)
	if x != want || ok != wantOK {
		t.Fatalf("ReadTime(%q) = %d, %v, want %d, %v", s, x, ok, want, wantOK)
	}
	if ok && impl.TimeText(x) != s {
		t.Fatalf("ReadTime accepts %q, but the text of %d is %q", s, x, impl.TimeText(x))
	}
}

func TestAcceptedTextsAreTheTextsOfTheirTimes(t *testing.T) {
	for _, c := range timeExamples {
		s := c.text
		for i := 0; i <= len(s); i++ {
			checkText(t, s[:i])
			checkText(t, s[i:])
			for b := 0; b < 256; b++ {
				checkText(t, s[:i]+string([]byte{byte(b)})+s[i:])
				if i < len(s) {
					checkText(t, s[:i]+string([]byte{byte(b)})+s[i+1:])
				}
			}
			if i < len(s) {
				checkText(t, s[:i]+s[i+1:])
			}
			if i+1 < len(s) {
				checkText(t, s[:i]+s[i+1:i+2]+s[i:i+1]+s[i+2:])
			}
		}
	}
}
