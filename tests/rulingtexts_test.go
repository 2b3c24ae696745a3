package tests

import (
	"math/rand"
	"strings"
	"testing"

	"loop.example/g00887/impl"
)

// rulingTexts are all the texts of rulings.
var rulingTexts = map[string]impl.Ruling{
	"1 turning":  {Keeper: 1, Reason: impl.ReasonTurning},
	"2 turning":  {Keeper: 2, Reason: impl.ReasonTurning},
	"1 port":     {Keeper: 1, Reason: impl.ReasonOpposite},
	"2 port":     {Keeper: 2, Reason: impl.ReasonOpposite},
	"1 astern":   {Keeper: 1, Reason: impl.ReasonAstern},
	"2 astern":   {Keeper: 2, Reason: impl.ReasonAstern},
	"1 windward": {Keeper: 1, Reason: impl.ReasonWindward},
	"2 windward": {Keeper: 2, Reason: impl.ReasonWindward},
	"0 unclear":  {Keeper: 0, Reason: impl.ReasonUnclear},
}

func expectedRulingText(r impl.Ruling) string {
	for s, ruling := range rulingTexts {
		if ruling == r {
			return s
		}
	}
	return ""
}

// checkRulingText checks what is read from a text, whether a ruling has it or not.
func checkRulingText(t *testing.T, s string) {
	t.Helper()
	want, wantOK := rulingTexts[s]
	if r, ok := impl.ReadRuling(s); r != want || ok != wantOK {
		t.Fatalf("ReadRuling(%q) = %v, %v, want %v, %v", s, r, ok, want, wantOK)
	}
}

func TestRulingText(t *testing.T) {
	keepers := append([]int64{-1, 0, 1, 2, 3, -2, 1 << 32, 1<<32 + 1, 1<<32 + 2}, extremes...)
	reasons := append([]int64{0, 1, 2, 3, 4, 5, 6, -1, 1 << 32, 1<<32 + 1, 1<<32 + 5}, extremes...)
	texts := 0
	for _, keeper := range keepers {
		for _, reason := range reasons {
			r := impl.Ruling{Keeper: keeper, Reason: reason}
			s := impl.RulingText(r)
			if want := expectedRulingText(r); s != want {
				t.Errorf("RulingText(%v) = %q, want %q", r, s, want)
			}
			if s != "" {
				texts++
			}
		}
	}
	if texts != len(rulingTexts) {
		t.Errorf("%d rulings have a text, want %d", texts, len(rulingTexts))
	}
}

// Every ruling on two boats has a text, from which it is read.
func TestRulingsAreReadFromTheirTexts(t *testing.T) {
	for s, r := range rulingTexts {
		if read, ok := impl.ReadRuling(impl.RulingText(r)); !ok || read != r {
			t.Errorf("of the text of %v, %v is read, %v", r, read, ok)
		}
		if read, ok := impl.ReadRuling(s); !ok || impl.RulingText(read) != s {
			t.Errorf("of %q, %v is read, %v", s, read, ok)
		}
	}
	random := rand.New(rand.NewSource(43))
	for range 2000 {
		r := ruleOn(t, randomWind(random, 5), randomBoat(random, 70, 5, 90), randomBoat(random, 70, 5, 90))
		if read, ok := impl.ReadRuling(impl.RulingText(r)); !ok || read != r {
			t.Fatalf("of the text of %v, %v is read, %v", r, read, ok)
		}
	}
}

func TestReadRulingRefusesOtherTexts(t *testing.T) {
	for _, s := range []string{
		"", " ", "  ", "0", "1", "2", "0 ", "1 ", " 0", " 1", "port", "unclear", " port", " unclear", " turning",
		"0 turning", "0 port", "0 astern", "0 windward", "1 unclear", "2 unclear", "3 unclear", "3 port", "-1 port", "-1 unclear", "4 windward",
		"1  port", " 1 port", "1 port ", "1 port\n", "\n1 port", "1\tport", "1\nport", "1port", "1 port port", "1 1 port", "1 port 1", "1 port unclear",
		"01 port", "+1 port", "00 unclear", "-0 unclear", "+0 unclear", "0x1 port", "1. port", "1.0 port", "1e0 port", "1_ port", "0_1 port", "0b1 port", "0o1 port",
		"1 Port", "1 PORT", "0 Unclear", "0 UNCLEAR", "2 Windward", "2 windWard", "1 starboard", "1 opposite", "1 none", "1 0", "1 2", "1 2 3", "0 5",
		"18446744073709551617 port", "18446744073709551616 unclear", "4294967297 port", "4294967296 unclear", "9223372036854775807 port", "-9223372036854775808 port",
		"99999999999999999999 unclear", "-99999999999999999999 unclear", "x unclear", "- unclear", "+ unclear", "one port", "\x001 port", "1 port\x00", "1\u00a0port", "\uff11 port", "1 \u0440ort", "\ufeff1 port",
	} {
		if r, ok := impl.ReadRuling(s); ok || r != (impl.Ruling{}) {
			t.Errorf("ReadRuling(%q) = %v, %v", s, r, ok)
		}
		checkRulingText(t, s)
	}
}

// spoiltTexts have a byte more or less than a text, or another one.
func spoiltTexts(s string) []string {
	texts := []string{s, strings.ToUpper(s), s + s, s + " " + s, strings.TrimLeft(s, "012 ")}
	for k := range len(s) + 1 {
		for _, b := range []string{" ", "a", "t", "-", "+", "0", "1", "2", "\n", "\x00", "."} {
			texts = append(texts, s[:k]+b+s[k:])
			if k < len(s) {
				texts = append(texts, s[:k]+b+s[k+1:])
			}
		}
		texts = append(texts, s[:k], s[k:])
		if k < len(s) {
			texts = append(texts, s[:k]+s[k+1:], s[:k]+strings.ToUpper(s[k:k+1])+s[k+1:])
		}
	}
	return texts
}

func TestSpoiltRulingTexts(t *testing.T) {
	for s := range rulingTexts {
		for _, spoilt := range spoiltTexts(s) {
			checkRulingText(t, spoilt)
		}
	}
}

// Every number with every word is a text only if a ruling has it.
func TestNumbersAndWordsOfRulings(t *testing.T) {
	read := 0
	for _, number := range []string{"", "-2", "-1", "0", "1", "2", "3", "4", "5", "6", "10", "12", "21", "00", "01", "02", "-0", "+1", "a"} {
		for _, word := range []string{"", "turning", "port", "astern", "windward", "unclear", "none", "opposite", "starboard", "0", "1", "Turning", "PORT"} {
			for _, between := range []string{"", " ", "  ", "\t", "-", ":"} {
				s := number + between + word
				checkRulingText(t, s)
				if _, ok := impl.ReadRuling(s); ok {
					read++
				}
			}
		}
	}
	if read != len(rulingTexts) {
		t.Errorf("%d texts are read, want %d", read, len(rulingTexts))
	}
}
