package tests

import (
	"math/rand"
	"slices"
	"testing"

	"loop.example/g00887/impl"
)

// noRoom is the room between tracks of which none comes to the mark or one has no hull. It is the
// zero value.
var noRoom = impl.Room{Reason: impl.RoomNone}

// expectedRoomAt is for valid arguments.
func expectedRoomAt(w impl.Wind, m impl.Mark, first, second impl.Track, length int64) impl.Room {
	time := expectedRoomTime(m, first, second)
	if time < 0 {
		return noRoom
	}
	hulls := [2]impl.Hull{}
	for k, track := range []impl.Track{first, second} {
		if time < firstTime(track) || time > lastTime(track) {
			return noRoom
		}
		h, code := expectedHullAt(track, time, length)
		if code != impl.ErrNone {
			return noRoom
		}
		hulls[k] = h
	}
	return expectedRoom(w, m, hulls[0], hulls[1])
}

func roomAt(t *testing.T, w impl.Wind, c impl.Course, k int, first, second impl.Track, length int64) impl.Room {
	t.Helper()
	r, code := impl.RoomAt(w, c, int64(k), first, second, length)
	if code != impl.ErrNone {
		t.Fatalf("RoomAt(%v, %v, %d, %v, %v, %d): code %d", w, c, k, first, second, length, code)
	}
	return r
}

// checkRoomAt checks the room between two tracks and the promise, and returns the room.
func checkRoomAt(t *testing.T, w impl.Wind, c impl.Course, k int, first, second impl.Track, length int64) impl.Room {
	t.Helper()
	r, back := roomAt(t, w, c, k, first, second, length), roomAt(t, w, c, k, second, first, length)
	if want := expectedRoomAt(w, c.Marks[k], first, second, length); r != want {
		t.Fatalf("RoomAt(%v, %v, %d, %v, %v, %d) = %v, want %v", w, c, k, first, second, length, r, want)
	}
	if back != exchangedRoom(r) || !impl.IsRoom(r) {
		t.Fatalf("RoomAt(%v, %v, %d, %v, %v, %d) = %v, but exchanged %v", w, c, k, first, second, length, r, back)
	}
	return r
}

func refuseRoomAt(t *testing.T, w impl.Wind, c impl.Course, k int64, first, second impl.Track, length, want int64) {
	t.Helper()
	if r, code := impl.RoomAt(w, c, k, first, second, length); r != (impl.Room{}) || code != want {
		t.Fatalf("RoomAt(%v, %v, %d, %v, %v, %d) = %v, %d, want the code %d", w, c, k, first, second, length, r, code, want)
	}
}

// northward sails to the north for 40 milliseconds, one decimetre each, and passes the mark at
// {0, 0} with a zone of 20 at half of the time. It has fixes at 0, 10, 20, 30 and 40.
func northward(x, y int64) impl.Track {
	return trackOf(0, x, y-20, 10, x, y-10, 20, x, y, 30, x, y+10, 40, x, y+20)
}

func TestRoomAt(t *testing.T) {
	// Here the wind blows to the north, so that no boat sails upwind.
	for _, row := range []struct {
		name          string
		first, second impl.Track
		length        int64
		want          impl.Room
	}{
		{"the first one inside", northward(5, 0), northward(-9, 0), 30, insideRoom(2)},
		{"the first one inside, on the other side of the second one", northward(-5, 0), northward(-9, 0), 30, insideRoom(2)},
		{"both equally far", northward(5, 0), northward(-5, 0), 30, unclearRoom},
		{"the same track twice", northward(5, 0), northward(5, 0), 30, unclearRoom},
		{"astern", northward(5, 0), northward(5, -31), 30, aheadRoom(2)},
		{"astern by the length", northward(5, 0), northward(5, -30), 30, insideRoom(2)},
		{"astern of a longer boat", northward(5, 0), northward(5, -31), 31, insideRoom(2)},
		{"astern, of the least length", northward(5, 0), northward(5, -2), 1, aheadRoom(2)},
		{"ahead, but farther away from the mark", northward(500, 40), northward(5, 0), 30, aheadRoom(2)},
		{"astern, but far to the side", northward(5, 0), northward(-5000, -31), 30, aheadRoom(2)},
		{"apart", trackOf(0, 0, 0, 40, 0, 40), trackOf(0, 0, -100, 40, 0, -140), 30, unclearRoom},
		{"none comes", northward(500, 0), northward(-500, 0), 30, noRoom},
		{"none comes, though one is astern", northward(500, 0), northward(500, -90), 30, noRoom},
		{"only the first one comes", northward(5, 0), northward(50, 0), 30, insideRoom(2)},
		{"only the first one comes, and is astern", northward(5, 0), northward(50, 35), 30, aheadRoom(1)},
		{"only the first one comes, when the other one has not begun", northward(5, 0), later(northward(9, 0), 1), 30, noRoom},
		{"the other one begins just then", later(northward(5, 0), 1), later(northward(9, 0), 1), 30, insideRoom(2)},
		{"the other one has ended just before", later(northward(5, 0), 41), northward(50, 0), 30, noRoom},
		{"the other one ends just then", later(northward(5, 0), 40), northward(50, 0), 30, aheadRoom(1)},
		{"the other one ends just then, ahead by the length", later(northward(5, 0), 40), northward(50, -10), 30, insideRoom(2)},
		{"the one that comes has no heading then", trackOf(0, 5, 0, 10, 5, 0, 20, 5, 10), northward(9, 0), 30, noRoom},
		{"the other one has no heading then", northward(5, 0), trackOf(0, 50, 0, 10, 50, 0, 20, 50, 10), 30, noRoom},
		{"the other one has lost its heading just then", later(northward(5, 0), 10), trackOf(0, 50, 0, 10, 50, 0, 20, 50, 0), 30, noRoom},
		{"the other one has a heading again just then", later(northward(5, 0), 10), trackOf(0, 50, -20, 10, 50, -20, 20, 50, -10), 30, insideRoom(2)},
		{"the other one will have no heading later", later(northward(5, 0), 9), trackOf(0, 50, -20, 10, 50, -10, 20, 50, -10), 30, insideRoom(2)},
		{"stays in the zone", stay(impl.Point{}), northward(5, 0), 30, noRoom},
	} {
		t.Run(row.name, func(t *testing.T) {
			c := zoneCourse(0, 0, 20)
			for _, w := range []impl.Wind{toNorth, {Y: impl.MaxWind}} {
				if r := checkRoomAt(t, w, c, 0, row.first, row.second, row.length); r != row.want {
					t.Errorf("RoomAt(%v, %v, 0, %v, %v, %d) = %v, want %v", w, c, row.first, row.second, row.length, r, row.want)
				}
				if r := checkRoomAt(t, w, c, 0, row.second, row.first, row.length); r != exchangedRoom(row.want) {
					t.Errorf("exchanged, RoomAt is %v", r)
				}
			}
		})
	}
}

// The second boat comes first, and is nearer then. When the first one comes, that one is nearer.
func TestRoomIsThatAtTheRoomTime(t *testing.T) {
	c := zoneCourse(0, 0, 20)
	first := trackOf(0, 300, -100, 20, 100, -60, 40, 60, -10, 60, 1, 10)
	second := trackOf(0, 30, -100, 20, 30, -60, 30, 0, -10, 40, 0, -80, 60, 0, 0)
	checkComing(t, c, 0, first, 40)
	checkComing(t, c, 0, second, 20)
	if r := checkRoomAt(t, toNorth, c, 0, first, second, 90); r != insideRoom(1) {
		t.Errorf("RoomAt = %v", r)
	}
	a, _ := impl.HullAt(first, 40, 90)
	b, _ := impl.HullAt(second, 40, 90)
	if r := checkRoom(t, toNorth, c.Marks[0], a, b); r != insideRoom(2) {
		t.Errorf("RoomBetween = %v", r)
	}
	// If the second one stays away, only the time of the first one counts.
	away := trackOf(0, 30, -100, 20, 30, -60, 40, 0, -80, 60, 0, -50)
	checkComing(t, c, 0, away, -1)
	if r := checkRoomAt(t, toNorth, c, 0, first, away, 90); r != insideRoom(2) {
		t.Errorf("RoomAt = %v", r)
	}
}

// The boats beat to the mark on different tacks, and meet there.
func TestRoomAtInWindsFromAllSides(t *testing.T) {
	c := zoneCourse(0, 0, 20)
	port, starboard := trackOf(0, -31, -40, 10, -1, 0), trackOf(0, 32, -40, 10, 2, 0)
	for _, row := range []struct {
		w    impl.Wind
		want impl.Room
	}{{toSouth, oppositeRoom}, {toNorth, insideRoom(2)}, {toEast, insideRoom(2)}, {toWest, insideRoom(2)}, {impl.Wind{X: -1, Y: -7}, oppositeRoom}, {impl.Wind{X: -1, Y: -6}, insideRoom(2)}} {
		if r := checkRoomAt(t, row.w, c, 0, port, starboard, 50); r != row.want {
			t.Errorf("RoomAt(%v, %v, 0, %v, %v, 50) = %v, want %v", row.w, c, port, starboard, r, row.want)
		}
	}
	// No boat comes, or one has no hull: that counts more than the tacks.
	if r := checkRoomAt(t, toSouth, zoneCourse(0, 900, 20), 0, port, starboard, 50); r != noRoom {
		t.Errorf("RoomAt of boats that stay away is %v", r)
	}
	if r := checkRoomAt(t, toSouth, c, 0, port, later(starboard, 1), 50); r != noRoom {
		t.Errorf("RoomAt of a boat that begins later is %v", r)
	}
}

func TestLengthsOfHullsForRoom(t *testing.T) {
	c, first, second := zoneCourse(0, 0, 20), northward(5, 0), northward(5, -999)
	for length, want := range map[int64]impl.Room{1: aheadRoom(2), 2: aheadRoom(2), 998: aheadRoom(2), 999: insideRoom(2), impl.MaxHullLength: insideRoom(2)} {
		if r := checkRoomAt(t, toNorth, c, 0, first, second, length); r != want {
			t.Errorf("RoomAt(.., %d) = %v, want %v", length, r, want)
		}
	}
	// A length counts even if no track comes or has a hull.
	for _, length := range badHulls {
		for _, track := range []impl.Track{second, northward(900, 0), stay(impl.Point{}), later(first, 100)} {
			refuseRoomAt(t, toNorth, c, 0, first, track, length, impl.ErrRange)
			refuseRoomAt(t, toNorth, c, 0, northward(900, 0), track, length, impl.ErrRange)
		}
	}
}

func TestATrackWithItselfGivesNoRoom(t *testing.T) {
	counts := map[impl.Room]int{}
	for _, c := range []impl.Course{zoneCourse(0, 0, 5), zoneCourse(impl.MaxCoord, -impl.MaxCoord, impl.MaxZone), windingCourse(5), plainCourse()} {
		for k := range c.Marks {
			for n, track := range sailedTracks() {
				r := checkRoomAt(t, toSouth, c, k, track, track, someHulls[n%len(someHulls)])
				if r.Giver != 0 {
					t.Fatalf("RoomAt(%v, %v, %d, %v, itself, ..) = %v", toSouth, c, k, track, r)
				}
				counts[r]++
			}
		}
	}
	if len(counts) != 2 || counts[unclearRoom] < 50 || counts[noRoom] < 50 {
		t.Errorf("rooms: %v", counts)
	}
}

func TestRoomOnAllTracks(t *testing.T) {
	for _, c := range []impl.Course{plainCourse(), windingCourse(impl.MaxMarks), farCourses()[1], looseCourses()[3]} {
		for k, m := range c.Marks {
			tracks := append(sailedTracks(), stay(m.At))
			for n, first := range tracks {
				second := tracks[(n*11+3*k)%len(tracks)]
				w := []impl.Wind{toSouth, {X: 3, Y: 4}, {X: -impl.MaxWind, Y: 999}}[n%3]
				checkRoomAt(t, w, c, k, first, second, someHulls[(n+k)%len(someHulls)])
			}
		}
	}
}

func TestRoomOfRandomTracks(t *testing.T) {
	counts := map[impl.Room]int{}
	random := rand.New(rand.NewSource(55))
	for k := range 6000 {
		w, first, second := randomWind(random, []int64{2, impl.MaxWind}[k%2]), randomTrack(random), randomTrack(random)
		c := zoneCourseAt(random)
		counts[checkRoomAt(t, w, c, 0, first, second, 1+random.Int63n(20))]++
	}
	for s, r := range roomTexts {
		if counts[r] < 50 {
			t.Errorf("only %d rooms are %q", counts[r], s)
		}
	}
}

// The room between tracks is that between the hulls at the room time, by the functions themselves.
func TestRoomAtIsTheRoomBetweenHulls(t *testing.T) {
	random := rand.New(rand.NewSource(56))
	between := 0
	for range 1000 {
		c, first, second := zoneCourseAt(random), randomTrack(random), randomTrack(random)
		want := noRoom
		if time, code := impl.RoomTime(c, 0, first, second); code == impl.ErrNone {
			a, firstCode := impl.HullAt(first, time, 9)
			b, secondCode := impl.HullAt(second, time, 9)
			if firstCode == impl.ErrNone && secondCode == impl.ErrNone {
				want = roomBetween(t, toSouth, c.Marks[0], a, b)
				between++
			}
		}
		if r := roomAt(t, toSouth, c, 0, first, second, 9); r != want {
			t.Fatalf("RoomAt(%v, %v, 0, %v, %v, 9) = %v, want %v", toSouth, c, first, second, r, want)
		}
	}
	if between < 300 {
		t.Errorf("only %d rooms are between hulls", between)
	}
}

// Each mark has its own room.
func TestRoomAtTheMarksOfACourse(t *testing.T) {
	c := course(line(-10, 0, 10, 0), line(0, 900, 20, 900),
		mark("a", 0, 100, impl.MarkPort, 10), mark("b", 0, 300, impl.MarkStarboard, 20), mark("c", 0, 500, impl.MarkPort, 30), mark("d", 0, 700, impl.MarkPort, 10))
	first := trackOf(0, 5, 0, 10, 5, 200, 20, 15, 400, 30, 50, 600)
	second := trackOf(0, -7, 0, 10, -7, 200, 20, -12, 400, 30, 5, 600)
	// At 0, 10 and 20 the bows are at the fixes.
	for k, want := range []impl.Room{insideRoom(2), insideRoom(2), insideRoom(1), noRoom} {
		if r := checkRoomAt(t, toNorth, c, k, first, second, 900); r != want {
			t.Errorf("RoomAt(.., %d, ..) = %v, want %v", k, r, want)
		}
	}
	slices.Reverse(c.Marks)
	for k, want := range []impl.Room{noRoom, insideRoom(1), insideRoom(2), insideRoom(2)} {
		if r := checkRoomAt(t, toNorth, c, k, first, second, 900); r != want {
			t.Errorf("RoomAt(.., %d, ..) of the course in the other order = %v, want %v", k, r, want)
		}
	}
}
