package tests

import (
	"math/rand"
	"testing"

	"loop.example/g00887/impl"
)

var (
	oppositeRoom = impl.Room{Reason: impl.RoomOpposite}
	unclearRoom  = impl.Room{Reason: impl.RoomUnclear}
)

func insideRoom(giver int64) impl.Room { return impl.Room{Giver: giver, Reason: impl.RoomInside} }

func aheadRoom(giver int64) impl.Room { return impl.Room{Giver: giver, Reason: impl.RoomAhead} }

func exchangedRoom(r impl.Room) impl.Room {
	return impl.Room{Giver: exchangedKeeper[r.Giver], Reason: r.Reason}
}

func markAt(x, y int64) impl.Mark { return mark("m", x, y, impl.MarkPort, 60) }

func expectedInside(m impl.Mark, a, b impl.Hull) int64 {
	return [3]int64{1, 0, 2}[bigSquareDistance(a.Bow, m.At).Cmp(bigSquareDistance(b.Bow, m.At))+1]
}

// expectedRoom follows the list of the document from case to case.
func expectedRoom(w impl.Wind, m impl.Mark, a, b impl.Hull) impl.Room {
	first, second := expectedTack(w, a.Heading), expectedTack(w, b.Heading)
	areUpwind := expectedSail(w, a.Heading) == impl.SailUpwind && expectedSail(w, b.Heading) == impl.SailUpwind
	if areUpwind && first != second && first != impl.TackNone && second != impl.TackNone {
		return oppositeRoom
	}
	firstIsAstern, secondIsAstern := expectedAstern(b, a), expectedAstern(a, b)
	if firstIsAstern && secondIsAstern {
		return unclearRoom
	}
	if firstIsAstern {
		return aheadRoom(1)
	}
	if secondIsAstern {
		return aheadRoom(2)
	}
	return [3]impl.Room{unclearRoom, insideRoom(2), insideRoom(1)}[expectedInside(m, a, b)]
}

func insideBoat(t *testing.T, m impl.Mark, a, b impl.Hull) int64 {
	t.Helper()
	n, code := impl.InsideBoat(m, a, b)
	if code != impl.ErrNone {
		t.Fatalf("InsideBoat(%v, %v, %v): code %d", m, a, b, code)
	}
	return n
}

// checkInside checks the inside boat of a pair in both orders, and returns it.
func checkInside(t *testing.T, m impl.Mark, a, b impl.Hull) int64 {
	t.Helper()
	n, back := insideBoat(t, m, a, b), insideBoat(t, m, b, a)
	if want := expectedInside(m, a, b); n != want || back != exchangedKeeper[want] {
		t.Fatalf("InsideBoat(%v, %v, %v) = %d, and exchanged %d, want %d", m, a, b, n, back, want)
	}
	return n
}

func roomBetween(t *testing.T, w impl.Wind, m impl.Mark, a, b impl.Hull) impl.Room {
	t.Helper()
	r, code := impl.RoomBetween(w, m, a, b)
	if code != impl.ErrNone {
		t.Fatalf("RoomBetween(%v, %v, %v, %v): code %d", w, m, a, b, code)
	}
	return r
}

// checkRoom checks the room of a pair and the promise, and returns the room.
func checkRoom(t *testing.T, w impl.Wind, m impl.Mark, a, b impl.Hull) impl.Room {
	t.Helper()
	r, back := roomBetween(t, w, m, a, b), roomBetween(t, w, m, b, a)
	if want := expectedRoom(w, m, a, b); r != want {
		t.Fatalf("RoomBetween(%v, %v, %v, %v) = %v, want %v", w, m, a, b, r, want)
	}
	if back != exchangedRoom(r) {
		t.Fatalf("RoomBetween(%v, %v, %v, %v) = %v, but exchanged %v", w, m, a, b, r, back)
	}
	if r.Giver == 1 && back.Giver == 1 || r.Giver == 2 && back.Giver == 2 {
		t.Fatalf("%v and %v both have to give room", a, b)
	}
	if !impl.IsRoom(r) || r.Reason == impl.RoomNone {
		t.Fatalf("RoomBetween(%v, %v, %v, %v) = %v is no room between boats", w, m, a, b, r)
	}
	checkInside(t, m, a, b)
	return r
}

func turnedHull(h impl.Hull) impl.Hull { return turnedBoat(steady(h)).Hull }

// checkRoomAround checks a room with the wind from each of the four sides.
func checkRoomAround(t *testing.T, w impl.Wind, m impl.Mark, a, b impl.Hull, want impl.Room) {
	t.Helper()
	for range 4 {
		if r := checkRoom(t, w, m, a, b); r != want {
			t.Errorf("RoomBetween(%v, %v, %v, %v) = %v, want %v", w, m, a, b, r, want)
		}
		w, a, b = impl.Wind(quarterTurn(impl.Point(w))), turnedHull(a), turnedHull(b)
		m.At = quarterTurn(m.At)
	}
}

func TestRoomConstants(t *testing.T) {
	if impl.RoomNone != 0 || impl.RoomOpposite != 1 || impl.RoomInside != 2 || impl.RoomAhead != 3 || impl.RoomUnclear != 4 {
		t.Error(impl.RoomNone, impl.RoomOpposite, impl.RoomInside, impl.RoomAhead, impl.RoomUnclear)
	}
}

func TestIsRoom(t *testing.T) {
	// The rows are the givers -1 to 3, the columns the reasons -1 to 5.
	valid := [5][7]bool{
		{},
		{false, true, true, false, false, true, false},
		{false, false, false, true, true, false, false},
		{false, false, false, true, true, false, false},
		{},
	}
	for k, row := range valid {
		for n, want := range row {
			r := impl.Room{Giver: int64(k) - 1, Reason: int64(n) - 1}
			if is := impl.IsRoom(r); is != want {
				t.Errorf("IsRoom(%v) = %v", r, is)
			}
		}
	}
	// Numbers that are cut to fewer bits would become valid ones.
	for _, far := range append([]int64{1 << 32, 1<<32 + 1, 1<<32 + 2, -1 << 32, 256, 257, 258}, extremes...) {
		for n := int64(-1); n <= 5; n++ {
			for _, r := range []impl.Room{{Giver: far, Reason: n}, {Giver: n, Reason: far}, {Giver: far, Reason: far}} {
				if impl.IsRoom(r) {
					t.Errorf("IsRoom(%v) is true", r)
				}
			}
		}
	}
}

// Headings in a wind toward the south. Those to the east are on port tack.
func upwindOnPort() []impl.Point {
	return []impl.Point{{X: 3, Y: 4}, {X: 1, Y: 1}, {X: 1, Y: 2000}, {X: maxHeading, Y: maxHeading}, {X: maxHeading - 1, Y: maxHeading}, {X: 1, Y: maxHeading}}
}

// acrossTheWind is p as seen in a mirror that stands in a wind toward the south.
func acrossTheWind(p impl.Point) impl.Point { return impl.Point{X: -p.X, Y: p.Y} }

// someWays lead from one bow to another one, so that the pair has each relation.
var someWays = []impl.Point{
	{}, {X: 10}, {X: -10}, {Y: 10}, {Y: -10}, {X: 9, Y: 10}, {X: 60}, {X: 3000}, {X: -60}, {X: -3000}, {Y: 3000}, {Y: -3000}, {X: 3000, Y: 2990}, {X: -3000, Y: 2990},
}

func TestBoatsThatBeatOnDifferentTacksGiveNoRoom(t *testing.T) {
	relations := map[int64]int{}
	for _, heading := range upwindOnPort() {
		port := impl.Hull{Heading: heading, Length: 50}
		for _, other := range upwindOnPort() {
			starboard := impl.Hull{Heading: acrossTheWind(other), Length: 40}
			// Whatever the later rules say of a pair.
			for _, way := range someWays {
				b := at(way.X, way.Y, starboard)
				relations[expectedRelation(expectedAstern(port, b), expectedAstern(b, port))]++
				for _, m := range []impl.Mark{markAt(0, 100), markAt(way.X, way.Y), markAt(0, 0), markAt(-impl.MaxCoord, impl.MaxCoord)} {
					checkRoomAround(t, toSouth, m, port, b, oppositeRoom)
					checkRoomAround(t, impl.Wind{Y: -impl.MaxWind}, m, b, port, oppositeRoom)
				}
			}
		}
	}
	for _, relation := range []int64{impl.HullsOverlap, impl.HullAstern, impl.HullAhead, impl.HullsApart} {
		if relations[relation] == 0 {
			t.Errorf("no pair has the relation %d", relation)
		}
	}
}

// In all other cases the later rules tell the giver.
func TestBoatsThatDoNotBeatOnDifferentTacks(t *testing.T) {
	const m = maxHeading
	for _, row := range []struct {
		name string
		a, b impl.Point
	}{
		{"both upwind on port tack", impl.Point{X: 3, Y: 4}, impl.Point{X: 1, Y: 2}},
		{"both upwind on starboard tack", impl.Point{X: -3, Y: 4}, impl.Point{X: -1, Y: 1}},
		{"with one heading", impl.Point{X: 3, Y: 4}, impl.Point{X: 3, Y: 4}},
		{"straight against the wind, and on port tack", impl.Point{Y: 5}, impl.Point{X: 3, Y: 4}},
		{"straight against the wind, and on starboard tack", impl.Point{Y: 5}, impl.Point{X: -3, Y: 4}},
		{"both straight against the wind", impl.Point{Y: 5}, impl.Point{Y: 1}},
		{"upwind, and reaching on the other tack", impl.Point{X: 3, Y: 4}, impl.Point{X: -5, Y: 4}},
		{"upwind on starboard tack, and reaching on port tack", impl.Point{X: -3, Y: 4}, impl.Point{X: 5, Y: 4}},
		{"upwind, and just reaching", impl.Point{X: m, Y: m}, impl.Point{X: -m, Y: m - 1}},
		{"just reaching, and upwind", impl.Point{X: m, Y: m - 1}, impl.Point{X: 1 - m, Y: m}},
		{"upwind, and straight across the wind", impl.Point{X: 3, Y: 4}, impl.Point{X: -5}},
		{"upwind, and downwind on the other tack", impl.Point{X: 3, Y: 4}, impl.Point{X: -3, Y: -4}},
		{"upwind, and straight before the wind", impl.Point{X: 3, Y: 4}, impl.Point{Y: -5}},
		{"both reaching", impl.Point{X: 5, Y: 4}, impl.Point{X: -5, Y: 4}},
		{"both just reaching", impl.Point{X: m, Y: m - 1}, impl.Point{X: -m, Y: m - 1}},
		{"both straight across the wind", impl.Point{X: 5}, impl.Point{X: -5}},
		{"both downwind", impl.Point{X: 3, Y: -4}, impl.Point{X: -3, Y: -4}},
		{"both just downwind", impl.Point{X: 1, Y: -1}, impl.Point{X: -1, Y: -1}},
		{"both straight before the wind", impl.Point{Y: -5}, impl.Point{Y: -1}},
	} {
		t.Run(row.name, func(t *testing.T) {
			for _, w := range []impl.Wind{toSouth, {Y: -impl.MaxWind}} {
				a, b := impl.Hull{Heading: row.a, Length: 50}, impl.Hull{Bow: impl.Point{X: 10}, Heading: row.b, Length: 50}
				checkRoomAround(t, w, markAt(0, 100), a, b, insideRoom(2))
				checkRoomAround(t, w, markAt(10, 100), a, b, insideRoom(1))
				checkRoomAround(t, w, markAt(5, 100), a, b, unclearRoom)
				checkRoomAround(t, w, markAt(0, 100), b, a, insideRoom(1))
			}
		})
	}
}

func TestBoatsAsternGiveRoom(t *testing.T) {
	const m = impl.MaxCoord
	reach := hullOf(0, 0, 1, 0, 50)
	for _, row := range []struct {
		name string
		a, b impl.Hull
		want impl.Room
	}{
		{"far astern", onPort, at(-60, -80, onPort), aheadRoom(2)},
		{"far ahead", onPort, at(60, 80, onPort), aheadRoom(1)},
		{"just behind the stern", onPort, at(-29, -41, onPort), aheadRoom(2)},
		{"ahead by more than the length", onPort, at(29, 41, onPort), aheadRoom(1)},
		{"on starboard tack, astern", onStarboard, at(60, -80, onStarboard), aheadRoom(2)},
		{"on starboard tack, ahead", onStarboard, at(-60, 80, onStarboard), aheadRoom(1)},
		{"just astern of a reaching boat", reach, at(-51, 0, reach), aheadRoom(2)},
		{"just ahead of a reaching boat", reach, at(51, 0, reach), aheadRoom(1)},
		{"far to the side, astern", reach, at(-51, 70000, reach), aheadRoom(2)},
		{"with another heading, astern", onPort, hullOf(-60, -80, 1, 0, 50), aheadRoom(2)},
		{"with another heading, ahead", hullOf(-60, -80, 1, 0, 50), onPort, aheadRoom(1)},
		{"apart", hullOf(0, 0, 1, 5, 50), hullOf(0, -100, 1, -5, 50), unclearRoom},
		{"apart on starboard tack", hullOf(0, 0, -1, 5, 50), hullOf(0, -100, -1, -5, 50), unclearRoom},
		{"apart, but the first one longer", hullOf(0, 0, 1, 5, 99), hullOf(0, -100, 1, -5, 50), aheadRoom(1)},
		{"apart, but the second one longer", hullOf(0, 0, 1, 5, 50), hullOf(0, -100, 1, -5, 99), aheadRoom(2)},
		{"far away, astern", hullOf(m, m, maxHeading, maxHeading, 1000), hullOf(-m, -m, maxHeading, maxHeading, 1000), aheadRoom(2)},
		{"far away, ahead", hullOf(-m, -m, maxHeading, maxHeading, 1), hullOf(m, m, maxHeading, maxHeading, 1), aheadRoom(1)},
	} {
		t.Run(row.name, func(t *testing.T) {
			for _, w := range []impl.Wind{toSouth, toNorth, toEast, toWest, {X: 3, Y: 4}, {X: -impl.MaxWind, Y: 1}} {
				// Whichever boat is nearer to the mark.
				for _, x := range []impl.Mark{markAt(0, 0), {At: row.a.Bow}, {At: row.b.Bow}, markAt(0, 5000), markAt(m, -m)} {
					checkRoomAround(t, w, x, row.a, row.b, row.want)
					checkRoomAround(t, w, x, row.b, row.a, exchangedRoom(row.want))
				}
			}
		})
	}
}

// All of these pairs are overlapped.
func TestOutsideBoatsGiveRoom(t *testing.T) {
	const m = impl.MaxCoord
	north, east := hullOf(0, 0, 0, 10, 50), hullOf(0, 0, 1, 0, 50)
	for _, row := range []struct {
		name   string
		mark   impl.Mark
		a, b   impl.Hull
		inside int64
	}{
		{"the first one", markAt(0, 100), at(10, 60, north), at(40, 50, north), 1},
		{"the second one", markAt(0, 100), at(40, 50, north), at(10, 60, north), 2},
		{"none, on both sides of the mark", markAt(0, 100), at(10, 60, north), at(-10, 60, north), 0},
		{"none, at one point", markAt(0, 100), at(10, 60, north), at(10, 60, north), 0},
		{"none, at one point with other headings", markAt(0, 100), at(10, 60, north), at(10, 60, east), 0},
		{"none, both at the mark", markAt(7, -9), at(7, -9, north), at(7, -9, east), 0},
		{"at the mark", markAt(7, -9), at(7, -9, north), at(7, -8, north), 1},
		{"25 and 26", markAt(0, 0), at(3, 4, north), at(1, 5, north), 1},
		{"26 and 25", markAt(0, 0), at(5, 1, north), at(5, 0, north), 2},
		{"25 and 20", markAt(0, 0), at(-4, -3, north), at(-4, -2, north), 2},
		{"25 twice", markAt(0, 0), at(3, 4, north), at(5, 0, north), 0},
		{"25 twice, on other sides", markAt(0, 0), at(-4, 3, north), at(0, -5, north), 0},
		{"1 and 0", markAt(0, 0), at(0, 1, north), at(0, 0, north), 2},
		{"1 and 2", markAt(0, 0), at(0, -1, north), at(-1, 1, north), 1},
		{"the distances are equal if they are rounded down", markAt(-3, 5), at(97, 5, north), at(97, 6, north), 1},
		{"the bow counts, not the stern", markAt(0, 0), hullOf(0, 6, 0, 1, 10), hullOf(0, 5, 0, -1, 900), 2},
		{"the longer boat", markAt(0, 0), hullOf(0, 6, 0, 1, 1), hullOf(0, 5, 0, 1, 1000), 2},
		{"the mark astern", markAt(0, -400), at(3, 0, north), at(4, 0, north), 1},
		{"the one that is not ahead", markAt(20, 0), at(0, 10, north), at(20, -10, north), 2},
		{"just not clear astern", markAt(0, -50), at(0, 0, north), at(0, -50, north), 2},
		{"just not clear ahead", markAt(0, 50), at(0, 0, north), at(0, 50, north), 2},
		{"far, 4 * 10^12 and one more", markAt(-m, -m), at(m, -m, east), at(m, 1-m, east), 1},
		{"far, 4 * 10^12 and one more, on the other side", markAt(m, m), at(1-m, -m, north), at(m, -m, north), 2},
		{"far, 4 * 10^12 and 8 * 10^12", markAt(-m, -m), at(m, m, north), at(-m, m, north), 2},
		{"farthest", markAt(m, m), at(-m, -m, north), at(-m, -m, north), 0},
		{"farthest, and one nearer", markAt(m, m), at(-m, -m, east), at(-m, 1-m, east), 2},
		{"none, at the ends of all", markAt(0, 0), at(-m, m, north), at(m, m, north), 0},
	} {
		t.Run(row.name, func(t *testing.T) {
			if expectedRelation(expectedAstern(row.a, row.b), expectedAstern(row.b, row.a)) != impl.HullsOverlap {
				t.Fatal("the boats are not overlapped")
			}
			want := [3]impl.Room{unclearRoom, insideRoom(2), insideRoom(1)}[row.inside]
			for _, w := range []impl.Wind{toNorth, toSouth, toEast, toWest, {X: -3, Y: 4}} {
				checkRoomAround(t, w, row.mark, row.a, row.b, want)
				checkRoomAround(t, w, row.mark, row.b, row.a, exchangedRoom(want))
			}
			if n := checkInside(t, row.mark, row.a, row.b); n != row.inside {
				t.Errorf("InsideBoat(%v, %v, %v) = %d, want %d", row.mark, row.a, row.b, n, row.inside)
			}
		})
	}
}

// InsideBoat does not ask whether the boats are overlapped.
func TestInsideBoatsOfAllHulls(t *testing.T) {
	counts := map[int64]int{}
	hulls, points := validHulls(), validPoints()
	for k, a := range hulls {
		for n := range 40 {
			b, p := hulls[(k*17+n*31)%len(hulls)], points[(k+n)%len(points)]
			counts[checkInside(t, markAt(p.X, p.Y), a, b)]++
		}
	}
	if counts[0] < 100 || counts[1] < 1000 || counts[2] < 1000 {
		t.Errorf("inside boats: %v", counts)
	}
}

func TestABoatWithItselfGivesNoRoom(t *testing.T) {
	for _, h := range validHulls() {
		for _, w := range []impl.Wind{toSouth, {X: 3, Y: 4}, {X: -impl.MaxWind, Y: impl.MaxWind}} {
			for _, m := range []impl.Mark{markAt(0, 100), {At: h.Bow}, markAt(impl.MaxCoord, -impl.MaxCoord)} {
				if r := checkRoom(t, w, m, h, h); r != unclearRoom {
					t.Fatalf("RoomBetween(%v, %v, %v, itself) = %v", w, m, h, r)
				}
			}
		}
	}
}

func TestRoomDoesNotDependOnTheOrder(t *testing.T) {
	counts := map[impl.Room]int{}
	random := rand.New(rand.NewSource(51))
	for k := range 40000 {
		w := randomWind(random, []int64{1, 4, impl.MaxWind}[k%3])
		limit, heading, length := []int64{5, 60, 1500, impl.MaxCoord}[k%4], []int64{1, 6, maxHeading}[k/2%3], []int64{8, 80, impl.MaxHullLength}[k%3]
		m := impl.Mark{At: randomPoint(random, limit)}
		a, b := randomHull(random, limit, heading, length), randomHull(random, limit, heading, length)
		// The bows of every seventh pair are opposite as seen from the mark.
		if facing := minus(m.At, minus(a.Bow, m.At)); k%7 == 0 && impl.IsPoint(facing) {
			b.Bow = facing
		}
		counts[checkRoom(t, w, m, a, b)]++
	}
	for _, r := range []impl.Room{oppositeRoom, insideRoom(1), insideRoom(2), aheadRoom(1), aheadRoom(2), unclearRoom} {
		if counts[r] < 1000 {
			t.Errorf("rooms: %v", counts)
		}
	}
	if len(counts) != 6 {
		t.Errorf("rooms: %v", counts)
	}
}

func TestRoomOfHullsOfAllHeadings(t *testing.T) {
	hulls := someHullsOf(1, 40, impl.MaxHullLength)
	bows := someBows()
	for k, a := range hulls {
		for n, b := range hulls {
			w := []impl.Wind{toSouth, {X: 3, Y: 4}, {X: impl.MaxWind, Y: -impl.MaxWind}}[(k+n)%3]
			checkRoom(t, w, impl.Mark{At: bows[(k*5+n)%len(bows)]}, a, b)
		}
	}
}

// The relation of two hulls is found by ranging over a map: the room must not change with its order.
func TestRoomDoesNotChange(t *testing.T) {
	for _, b := range []impl.Hull{at(-60, -80, onPort), at(60, 80, onPort), at(10, -10, onPort), hullOf(0, -100, 1, -5, 50), onStarboard} {
		want := expectedRoom(toSouth, markAt(0, 100), onPort, b)
		for range 500 {
			if r := roomBetween(t, toSouth, markAt(0, 100), onPort, b); r != want {
				t.Fatalf("RoomBetween(%v, .., %v, %v) = %v, want %v", toSouth, onPort, b, r, want)
			}
		}
	}
}

// Neither the strength of the wind nor the lengths of headings count.
func TestRoomDoesNotDependOnLengths(t *testing.T) {
	random := rand.New(rand.NewSource(52))
	for range 3000 {
		w, m := randomWind(random, 5), impl.Mark{At: randomPoint(random, 100)}
		a, b := randomHull(random, 100, 7, 90), randomHull(random, 100, 7, 90)
		want := checkRoom(t, w, m, a, b)
		for _, factor := range []int64{2, 9, 200} {
			longA, longB := a, b
			longA.Heading = impl.Point{X: factor * a.Heading.X, Y: factor * a.Heading.Y}
			longB.Heading = impl.Point{X: 1000 * factor * b.Heading.X, Y: 1000 * factor * b.Heading.Y}
			strong := impl.Wind{X: factor * w.X, Y: factor * w.Y}
			if r := roomBetween(t, strong, m, longA, longB); r != want {
				t.Fatalf("RoomBetween(%v, %v, %v, %v) = %v, want %v", strong, m, longA, longB, r, want)
			}
		}
	}
}
