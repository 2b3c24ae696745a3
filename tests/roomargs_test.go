package tests

import (
	"slices"
	"testing"

	"loop.example/g00887/impl"
)

// refuseRoom checks that both functions of a pair of hulls return ErrInvalid, and nothing beside it,
// in both orders.
func refuseRoom(t *testing.T, w impl.Wind, m impl.Mark, a, b impl.Hull) {
	t.Helper()
	for _, pair := range [][2]impl.Hull{{a, b}, {b, a}} {
		if n, code := impl.InsideBoat(m, pair[0], pair[1]); n != 0 || code != impl.ErrInvalid {
			t.Fatalf("InsideBoat(%v, %v, %v) = %d, %d, want ErrInvalid", m, pair[0], pair[1], n, code)
		}
	}
	refuseRoomBetween(t, w, m, a, b)
}

func refuseRoomBetween(t *testing.T, w impl.Wind, m impl.Mark, a, b impl.Hull) {
	t.Helper()
	for _, pair := range [][2]impl.Hull{{a, b}, {b, a}} {
		if r, code := impl.RoomBetween(w, m, pair[0], pair[1]); r != (impl.Room{}) || code != impl.ErrInvalid {
			t.Fatalf("RoomBetween(%v, %v, %v, %v) = %v, %d, want ErrInvalid", w, m, pair[0], pair[1], r, code)
		}
	}
}

func TestRoomOfInvalidHulls(t *testing.T) {
	// Rules that apply before the lengths or the bows count do not save an invalid hull.
	for _, bad := range invalidHulls() {
		for _, good := range []impl.Hull{onPort, onStarboard, headToWind, beforeWind, at(0, -900, onPort), bad, {}} {
			for _, w := range []impl.Wind{toSouth, {X: impl.MaxWind, Y: -impl.MaxWind}, {}} {
				refuseRoom(t, w, markAt(0, 100), good, bad)
				refuseRoom(t, w, impl.Mark{}, good, bad)
			}
		}
		refuseRoom(t, toSouth, impl.Mark{At: impl.Point{X: impl.MaxCoord + 1}}, onPort, bad)
	}
	for _, h := range validHulls() {
		checkRoom(t, toSouth, markAt(0, 100), h, onPort)
		checkRoom(t, toSouth, markAt(0, 100), onStarboard, h)
	}
}

// pairsOfAllRooms are pairs of hulls with each reason and giver in a wind toward the south, for a
// mark at {0, 100}.
func pairsOfAllRooms() map[impl.Room][2]impl.Hull {
	return map[impl.Room][2]impl.Hull{
		oppositeRoom:  {onPort, onStarboard},
		insideRoom(2): {onPort, at(10, 0, onPort)},
		insideRoom(1): {at(10, 0, onPort), onPort},
		aheadRoom(2):  {onPort, at(-60, -80, onPort)},
		aheadRoom(1):  {onPort, at(60, 80, onPort)},
		unclearRoom:   {onPort, onPort},
	}
}

func TestRoomInInvalidWinds(t *testing.T) {
	for want, pair := range pairsOfAllRooms() {
		for _, bad := range invalidWinds() {
			refuseRoomBetween(t, bad, markAt(0, 100), pair[0], pair[1])
			refuseRoomBetween(t, bad, impl.Mark{}, pair[0], pair[1])
		}
		for _, w := range validWinds() {
			checkRoom(t, w, markAt(0, 100), pair[0], pair[1])
		}
		if r := checkRoom(t, toSouth, markAt(0, 100), pair[0], pair[1]); r != want {
			t.Errorf("RoomBetween(%v, .., %v, %v) = %v, want %v", toSouth, pair[0], pair[1], r, want)
		}
	}
}

// Only the place of a mark counts, even if no other field of it is valid.
func TestRoomAtInvalidMarks(t *testing.T) {
	good := markAt(0, 100)
	for want, pair := range pairsOfAllRooms() {
		for _, m := range append(faultyMarks(good), impl.Mark{At: good.At}, mark("", 0, 100, 0, 0), mark("A", 0, 100, -1, -1)) {
			if !impl.IsPoint(m.At) {
				refuseRoom(t, toSouth, m, pair[0], pair[1])
				continue
			}
			r := checkRoom(t, toSouth, m, pair[0], pair[1])
			if m.At == good.At && r != want {
				t.Errorf("RoomBetween(%v, %v, %v, %v) = %v, want %v", toSouth, m, pair[0], pair[1], r, want)
			}
		}
		for _, p := range invalidPoints() {
			refuseRoom(t, toSouth, impl.Mark{At: p}, pair[0], pair[1])
			refuseRoom(t, toSouth, mark("top", p.X, p.Y, impl.MarkStarboard, 5), pair[0], pair[1])
		}
		for _, p := range validPoints() {
			checkRoom(t, toSouth, impl.Mark{At: p}, pair[0], pair[1])
			checkRoom(t, toSouth, mark("top", p.X, p.Y, impl.MarkStarboard, 5), pair[0], pair[1])
		}
	}
}

// refuseComing checks that the functions that look for times return a code, and nothing beside it.
func refuseComing(t *testing.T, c impl.Course, k int64, track impl.Track, want int64) {
	t.Helper()
	if time, code := impl.ComesAt(c, k, track); time != 0 || code != want {
		t.Fatalf("ComesAt(%v, %d, %v) = %d, %d, want the code %d", c, k, track, time, code, want)
	}
	refuseRoomTime(t, c, k, track, track, want)
}

func refuseRoomTime(t *testing.T, c impl.Course, k int64, first, second impl.Track, want int64) {
	t.Helper()
	for _, pair := range [][2]impl.Track{{first, second}, {second, first}} {
		if time, code := impl.RoomTime(c, k, pair[0], pair[1]); time != 0 || code != want {
			t.Fatalf("RoomTime(%v, %d, %v, %v) = %d, %d, want the code %d", c, k, pair[0], pair[1], time, code, want)
		}
	}
}

// refuseRooms checks that all functions with tracks return a code for a good wind and length, ahead
// of the code for a bad length, and nothing beside it.
func refuseRooms(t *testing.T, c impl.Course, k int64, track impl.Track, want int64) {
	t.Helper()
	good := northward(5, 0)
	refuseComing(t, c, k, track, want)
	refuseRoomTime(t, c, k, track, good, want)
	for _, length := range []int64{30, 0, impl.MaxHullLength + 1} {
		refuseRoomAt(t, toNorth, c, k, track, good, length, want)
		refuseRoomAt(t, toNorth, c, k, good, track, length, want)
		for _, tracks := range [][]impl.Track{{track}, {good, track}, {track, good, good}} {
			refuseRoomTable(t, toNorth, c, k, tracks, length, want)
		}
	}
}

func TestRoomAtMarksThatAreNotThere(t *testing.T) {
	for _, c := range validCourses() {
		for _, k := range marksBeside(c) {
			for _, track := range []impl.Track{windingTrack(5, 2), stay(c.Marks[0].At), northward(c.Marks[0].At.X/2, 0)} {
				refuseRooms(t, c, k, track, impl.ErrNotFound)
			}
			for _, length := range []int64{30, 0, impl.MaxHullLength + 1} {
				refuseRoomTable(t, toNorth, c, k, nil, length, impl.ErrNotFound)
			}
		}
		for k := range c.Marks {
			checkRoomTable(t, toNorth, c, k, nil, 30)
			checkRoomTable(t, toNorth, c, k, []impl.Track{windingTrack(5, 2)}, 30)
		}
	}
}

// ErrInvalid comes ahead of ErrNotFound, and of ErrRange.
func TestRoomFunctionsRefuseInvalidCourses(t *testing.T) {
	for _, c := range invalidCourses() {
		for _, k := range []int64{0, int64(len(c.Marks)) - 1, int64(len(c.Marks)), -1} {
			refuseRooms(t, c, k, northward(7, 0), impl.ErrInvalid)
			refuseRoomTable(t, toNorth, c, k, nil, 30, impl.ErrInvalid)
			refuseRoomTable(t, toNorth, c, k, nil, 0, impl.ErrInvalid)
		}
		refuseRooms(t, c, 0, impl.Track{}, impl.ErrInvalid)
	}
}

func TestRoomFunctionsRefuseInvalidTracks(t *testing.T) {
	full := slices.Repeat([]impl.Track{northward(5, 0)}, impl.MaxBoats)
	for j, track := range invalidTracks() {
		for _, c := range []impl.Course{plainCourse(), windingCourse(3), zoneCourse(0, 0, impl.MaxZone)} {
			for _, k := range []int64{0, int64(len(c.Marks)) - 1, int64(len(c.Marks)), -1} {
				refuseRooms(t, c, k, track, impl.ErrInvalid)
			}
		}
		tracks := slices.Clone(full)
		tracks[j%impl.MaxBoats] = track
		refuseRoomTable(t, toNorth, zoneCourse(0, 0, 20), 0, tracks, 30, impl.ErrInvalid)
	}
}

func TestRoomOfTracksInInvalidWinds(t *testing.T) {
	c, good := zoneCourse(0, 0, 20), northward(5, 0)
	for _, bad := range invalidWinds() {
		for _, track := range []impl.Track{good, northward(900, 0), stay(impl.Point{}), later(good, 100), {}} {
			for _, k := range []int64{0, 1, -1} {
				for _, length := range []int64{30, 0, impl.MaxHullLength + 1} {
					refuseRoomAt(t, bad, c, k, good, track, length, impl.ErrInvalid)
					refuseRoomAt(t, bad, c, k, track, good, length, impl.ErrInvalid)
					refuseRoomTable(t, bad, c, k, []impl.Track{good, track}, length, impl.ErrInvalid)
					refuseRoomTable(t, bad, c, k, []impl.Track{track}, length, impl.ErrInvalid)
					refuseRoomTable(t, bad, c, k, nil, length, impl.ErrInvalid)
				}
			}
		}
	}
}

// The length counts even if there is no track.
func TestRoomTablesWithBadLengths(t *testing.T) {
	c := zoneCourse(0, 0, 20)
	for _, length := range badHulls {
		for _, tracks := range [][]impl.Track{nil, {}, sailingInLine(1), sailingInLine(2), sailingAbreast(impl.MaxBoats), {northward(900, 0)}, {stay(impl.Point{})}} {
			refuseRoomTable(t, toNorth, c, 0, tracks, length, impl.ErrRange)
		}
	}
	for _, length := range someHulls {
		checkRoomTable(t, toNorth, c, 0, nil, length)
		checkRoomTable(t, toNorth, c, 0, sailingInLine(3), length)
	}
}

// Each choice of faults has the code that comes first.
func TestCodesOfRoomAtInTheirOrder(t *testing.T) {
	bad := trackOf(0, 5, 0, 0, 5, 10)
	for faults := range 64 {
		w, c, k, length := toNorth, zoneCourse(0, 0, 20), int64(0), int64(30)
		first, second := northward(5, 0), northward(9, 0)
		if faults&1 != 0 {
			first = bad
		}
		if faults&2 != 0 {
			second = bad
		}
		if faults&4 != 0 {
			w = impl.Wind{}
		}
		if faults&8 != 0 {
			c.Finish.B = c.Finish.A
		}
		if faults&16 != 0 {
			k = 1
		}
		if faults&32 != 0 {
			length = impl.MaxHullLength + 1
		}
		want := int64(impl.ErrNone)
		switch {
		case faults&15 != 0:
			want = impl.ErrInvalid
		case faults&16 != 0:
			want = impl.ErrNotFound
		case faults&32 != 0:
			want = impl.ErrRange
		}
		if want == impl.ErrNone {
			checkRoomTable(t, w, c, 0, []impl.Track{first, second}, length)
			continue
		}
		refuseRoomAt(t, w, c, k, first, second, length, want)
		refuseRoomTable(t, w, c, k, []impl.Track{first, second}, length, want)
		// The functions that look for times know neither the wind nor the length.
		switch {
		case faults&11 != 0:
			refuseRoomTime(t, c, k, first, second, impl.ErrInvalid)
		case faults&16 != 0:
			refuseRoomTime(t, c, k, first, second, impl.ErrNotFound)
		default:
			checkRoomTime(t, c, 0, first, second, 0)
		}
	}
}

func TestRoomFunctionsKeepTheirArguments(t *testing.T) {
	for _, c := range append(validCourses(), windingCourse(impl.MaxMarks+1)) {
		for _, track := range []impl.Track{windingTrack(impl.MaxFixes, 0), stay(c.Marks[0].At), zigzag(9), trackOf(5, 0, 0, 5, 1, 1)} {
			roomy, marks := roomyCourse(c)
			sailed, fixes := roomyTrack(track)
			tracks := slices.Repeat([]impl.Track{sailed}, 2*impl.MaxBoats)
			kept, keptMarks, keptFixes := slices.Clone(tracks), slices.Clone(marks), slices.Clone(fixes)
			for k := int64(-1); k <= int64(len(c.Marks)); k++ {
				impl.ComesAt(roomy, k, sailed)
				impl.RoomTime(roomy, k, sailed, sailed)
				for _, length := range []int64{0, 30} {
					impl.RoomAt(toSouth, roomy, k, sailed, sailed, length)
					for _, n := range []int{0, 3, impl.MaxBoats, impl.MaxBoats + 1} {
						impl.RoomTable(toSouth, roomy, k, tracks[:n], length)
					}
				}
			}
			if !slices.Equal(marks, keptMarks) || !slices.Equal(fixes, keptFixes) {
				t.Fatalf("the course %v or the track %v is modified", c, track)
			}
			if !slices.EqualFunc(tracks, kept, func(a, b impl.Track) bool { return sameTrack(a, b) && &a.Fixes[0] == &b.Fixes[0] }) {
				t.Fatalf("the tracks %v are modified", kept)
			}
		}
	}
}
