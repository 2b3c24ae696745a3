package tests

import (
	"math/rand"
	"strings"
	"testing"

	"loop.example/g00887/impl"
)

// roomTexts are all the texts of rooms.
var roomTexts = map[string]impl.Room{
	"0 none":     {Giver: 0, Reason: impl.RoomNone},
	"0 opposite": {Giver: 0, Reason: impl.RoomOpposite},
	"1 inside":   {Giver: 1, Reason: impl.RoomInside},
	"2 inside":   {Giver: 2, Reason: impl.RoomInside},
	"1 ahead":    {Giver: 1, Reason: impl.RoomAhead},
	"2 ahead":    {Giver: 2, Reason: impl.RoomAhead},
	"0 unclear":  {Giver: 0, Reason: impl.RoomUnclear},
}

// expectedRoomText returns the empty text for what is no room.
func expectedRoomText(r impl.Room) string {
	for s, room := range roomTexts {
		if room == r {
			return s
		}
	}
	return ""
}

// checkRoomText checks what is read from a text, whether a room has it or not.
func checkRoomText(t *testing.T, s string) {
	t.Helper()
	want, wantOK := roomTexts[s]
	if r, ok := impl.ReadRoom(s); r != want || ok != wantOK {
		t.Fatalf("ReadRoom(%q) = %v, %v, want %v, %v", s, r, ok, want, wantOK)
	}
}

func TestRoomText(t *testing.T) {
	givers := append([]int64{-1, 0, 1, 2, 3, -2, 4, 1 << 32, 1<<32 + 1, 1<<32 + 2}, extremes...)
	reasons := append([]int64{-1, 0, 1, 2, 3, 4, 5, 6, 1 << 32, 1<<32 + 1, 1<<32 + 4}, extremes...)
	texts := 0
	for _, giver := range givers {
		for _, reason := range reasons {
			r := impl.Room{Giver: giver, Reason: reason}
			s := impl.RoomText(r)
			if want := expectedRoomText(r); s != want {
				t.Errorf("RoomText(%v) = %q, want %q", r, s, want)
			}
			if impl.IsRoom(r) != (s != "") {
				t.Errorf("RoomText(%v) = %q, but IsRoom is %v", r, s, impl.IsRoom(r))
			}
			if s != "" {
				texts++
			}
			checkRoomText(t, s)
		}
	}
	if texts != len(roomTexts) {
		t.Errorf("%d rooms have a text, want %d", texts, len(roomTexts))
	}
}

// Every room between two boats has a text, from which it is read.
func TestRoomsAreReadFromTheirTexts(t *testing.T) {
	for s, r := range roomTexts {
		if read, ok := impl.ReadRoom(impl.RoomText(r)); !ok || read != r {
			t.Errorf("of the text of %v, %v is read, %v", r, read, ok)
		}
		if read, ok := impl.ReadRoom(s); !ok || impl.RoomText(read) != s {
			t.Errorf("of %q, %v is read, %v", s, read, ok)
		}
	}
	random := rand.New(rand.NewSource(53))
	for range 2000 {
		m := impl.Mark{At: randomPoint(random, 70)}
		r := roomBetween(t, randomWind(random, 5), m, randomHull(random, 70, 5, 90), randomHull(random, 70, 5, 90))
		if read, ok := impl.ReadRoom(impl.RoomText(r)); !ok || read != r {
			t.Fatalf("of the text of %v, %v is read, %v", r, read, ok)
		}
	}
}

func TestReadRoomRefusesOtherTexts(t *testing.T) {
	for _, s := range []string{
		"", " ", "  ", "0", "1", "2", "0 ", "1 ", " 0", " 1", "none", "inside", "unclear", " none", " inside", " ahead",
		"1 none", "2 none", "1 opposite", "2 opposite", "0 inside", "0 ahead", "1 unclear", "2 unclear", "3 inside", "3 ahead", "-1 inside", "-1 none", "-2 ahead", "12 inside", "10 ahead",
		"1  inside", " 1 inside", "1 inside ", "1 inside\n", "\n1 inside", "1\tinside", "1\ninside", "1inside", "1 inside inside", "1 1 inside", "1 inside 1", "0 none none", "0 none unclear",
		"00 none", "01 inside", "02 ahead", "+0 none", "-0 none", "+1 inside", "-0 unclear", "+0 opposite", "0x1 inside", "1. inside", "1.0 inside", "1e0 inside", "1_ inside", "0_1 inside", "0b1 inside", "0o1 inside",
		"0 None", "0 NONE", "0 Opposite", "1 Inside", "1 INSIDE", "2 Ahead", "2 aHead", "0 Unclear", "0 UNCLEAR",
		"1 outside", "1 astern", "0 apart", "0 port", "0 nones", "0 non", "1 insid", "1 0", "1 2", "1 3", "0 4", "0 0", "0 -1",
		"18446744073709551617 inside", "18446744073709551616 none", "4294967297 inside", "4294967296 none", "9223372036854775807 inside", "-9223372036854775808 none",
		"99999999999999999999 none", "-99999999999999999999 none", "x none", "- none", "+ none", "zero none", "one inside", "\x001 inside", "1 inside\x00", "1\u00a0inside", "\uff11 inside", "1 ins\u0456de", "\ufeff1 inside",
	} {
		if r, ok := impl.ReadRoom(s); ok || r != (impl.Room{}) {
			t.Errorf("ReadRoom(%q) = %v, %v", s, r, ok)
		}
		checkRoomText(t, s)
	}
}

func TestSpoiltRoomTexts(t *testing.T) {
	for s := range roomTexts {
		for _, spoilt := range spoiltTexts(s) {
			checkRoomText(t, spoilt)
			checkRoomText(t, strings.ToUpper(spoilt))
			checkRoomText(t, strings.ToTitle(spoilt))
		}
	}
}

// Every number with every word is a text only if a room has it.
func TestNumbersAndWordsOfRooms(t *testing.T) {
	read := 0
	for _, number := range []string{"", "-2", "-1", "0", "1", "2", "3", "4", "5", "10", "12", "21", "00", "01", "02", "-0", "+1", "a"} {
		for _, word := range []string{"", "none", "opposite", "inside", "ahead", "unclear", "turning", "astern", "port", "outside", "0", "1", "None", "INSIDE"} {
			for _, between := range []string{"", " ", "  ", "\t", "-", ":"} {
				s := number + between + word
				checkRoomText(t, s)
				if _, ok := impl.ReadRoom(s); ok {
					read++
				}
			}
		}
	}
	if read != len(roomTexts) {
		t.Errorf("%d texts are read, want %d", read, len(roomTexts))
	}
}
