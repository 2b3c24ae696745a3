package tests

import (
	"math/rand"
	"testing"

	"loop.example/g00887/impl"
)

func steady(h impl.Hull) impl.Boat { return impl.Boat{Hull: h} }

func turning(h impl.Hull) impl.Boat { return impl.Boat{Hull: h, Turning: true} }

var unclear = impl.Ruling{Reason: impl.ReasonUnclear}

// exchangedKeeper has, for each keeper, what it is if the boats are exchanged.
var exchangedKeeper = [3]int64{0, 2, 1}

func exchangedRuling(r impl.Ruling) impl.Ruling {
	return impl.Ruling{Keeper: exchangedKeeper[r.Keeper], Reason: r.Reason}
}

func keptClearIf(first bool, reason int64) impl.Ruling {
	if first {
		return impl.Ruling{Keeper: 1, Reason: reason}
	}
	return impl.Ruling{Keeper: 2, Reason: reason}
}

// expectedRuling follows the list of the document from case to case.
func expectedRuling(w impl.Wind, a, b impl.Boat) impl.Ruling {
	if a.Turning != b.Turning {
		return keptClearIf(a.Turning, impl.ReasonTurning)
	}
	first, second := expectedTack(w, a.Hull.Heading), expectedTack(w, b.Hull.Heading)
	if a.Turning || first == impl.TackNone || second == impl.TackNone {
		return unclear
	}
	if first != second {
		return keptClearIf(first == impl.TackPort, impl.ReasonOpposite)
	}
	firstIsAstern, secondIsAstern := expectedAstern(b.Hull, a.Hull), expectedAstern(a.Hull, b.Hull)
	if firstIsAstern && secondIsAstern {
		return unclear
	}
	if firstIsAstern || secondIsAstern {
		return keptClearIf(firstIsAstern, impl.ReasonAstern)
	}
	if n := expectedWindward(w, a.Hull, b.Hull); n != 0 {
		return keptClearIf(n == 1, impl.ReasonWindward)
	}
	return unclear
}

func ruleOn(t *testing.T, w impl.Wind, a, b impl.Boat) impl.Ruling {
	t.Helper()
	r, code := impl.RuleOn(w, a, b)
	if code != impl.ErrNone {
		t.Fatalf("RuleOn(%v, %v, %v): code %d", w, a, b, code)
	}
	return r
}

// checkRuling checks the ruling on a pair and the promise, and returns the ruling.
func checkRuling(t *testing.T, w impl.Wind, a, b impl.Boat) impl.Ruling {
	t.Helper()
	r, back := ruleOn(t, w, a, b), ruleOn(t, w, b, a)
	if want := expectedRuling(w, a, b); r != want {
		t.Fatalf("RuleOn(%v, %v, %v) = %v, want %v", w, a, b, r, want)
	}
	if back != exchangedRuling(r) {
		t.Fatalf("RuleOn(%v, %v, %v) = %v, but exchanged %v", w, a, b, r, back)
	}
	if r.Keeper == 1 && back.Keeper == 1 || r.Keeper == 2 && back.Keeper == 2 {
		t.Fatalf("%v and %v both have to keep clear", a, b)
	}
	return r
}

func quarterTurn(p impl.Point) impl.Point { return impl.Point{X: -p.Y, Y: p.X} }

func turnedBoat(b impl.Boat) impl.Boat {
	hull := impl.Hull{Bow: quarterTurn(b.Hull.Bow), Heading: quarterTurn(b.Hull.Heading), Length: b.Hull.Length}
	return impl.Boat{Hull: hull, Turning: b.Turning}
}

// checkRulingAround checks a ruling with the wind from each of the four sides.
func checkRulingAround(t *testing.T, w impl.Wind, a, b impl.Boat, want impl.Ruling) {
	t.Helper()
	for range 4 {
		if r := checkRuling(t, w, a, b); r != want {
			t.Errorf("RuleOn(%v, %v, %v) = %v, want %v", w, a, b, r, want)
		}
		w, a, b = impl.Wind(quarterTurn(impl.Point(w))), turnedBoat(a), turnedBoat(b)
	}
}

func TestReasonConstants(t *testing.T) {
	if impl.ReasonTurning != 1 || impl.ReasonOpposite != 2 || impl.ReasonAstern != 3 || impl.ReasonWindward != 4 || impl.ReasonUnclear != 5 {
		t.Error(impl.ReasonTurning, impl.ReasonOpposite, impl.ReasonAstern, impl.ReasonWindward, impl.ReasonUnclear)
	}
	if impl.MaxSpan != 60000 {
		t.Error(impl.MaxSpan)
	}
}

// Hulls in a wind toward the south, at the origin unless they are moved. Those with a heading to the
// east are on port tack.
var (
	onPort      = hullOf(0, 0, 3, 4, 50)
	onStarboard = hullOf(0, 0, -3, 4, 50)
	headToWind  = hullOf(0, 0, 0, 5, 50)
	beforeWind  = hullOf(0, 0, 0, -5, 50)
)

// at returns a hull of the same heading and length with another bow.
func at(x, y int64, h impl.Hull) impl.Hull {
	return impl.Hull{Bow: impl.Point{X: x, Y: y}, Heading: h.Heading, Length: h.Length}
}

func TestTurningBoatsKeepClear(t *testing.T) {
	first := impl.Ruling{Keeper: 1, Reason: impl.ReasonTurning}
	// Whatever the later rules say of a pair.
	for _, pair := range [][2]impl.Hull{
		{onPort, at(10, 0, onPort)}, {onPort, at(0, 10, onPort)}, {onPort, at(0, -10, onPort)}, {onPort, onPort},
		{onPort, onStarboard}, {onStarboard, onPort}, {onPort, at(-90, -90, onPort)}, {onPort, at(90, 90, onPort)},
		{headToWind, onPort}, {onPort, headToWind}, {headToWind, beforeWind}, {beforeWind, beforeWind}, {onStarboard, beforeWind},
		{hullOf(0, 0, 1, 5, 50), hullOf(0, -100, 1, -5, 50)},
	} {
		a, b := pair[0], pair[1]
		checkRulingAround(t, toSouth, turning(a), steady(b), first)
		checkRulingAround(t, toSouth, steady(a), turning(b), exchangedRuling(first))
		checkRulingAround(t, toSouth, turning(a), turning(b), unclear)
	}
}

func TestBoatsOnNoTackAreUnclear(t *testing.T) {
	for _, straight := range []impl.Hull{headToWind, beforeWind, hullOf(7, 7, 0, maxHeading, 1000), hullOf(-7, 1, 0, -1, 1)} {
		others := []impl.Hull{onPort, onStarboard, headToWind, beforeWind, at(10, 0, onPort), at(0, -900, onPort), at(0, 900, onStarboard), at(0, -900, beforeWind), at(0, -2000, headToWind), straight}
		for _, other := range others {
			checkRulingAround(t, toSouth, steady(straight), steady(other), unclear)
			checkRulingAround(t, toSouth, steady(other), steady(straight), unclear)
		}
	}
	// A heading that is nearly straight is on a tack.
	checkRulingAround(t, toSouth, steady(hullOf(0, 0, 1, maxHeading, 50)), steady(hullOf(0, 0, -1, maxHeading, 50)), keptClearIf(true, impl.ReasonOpposite))
	checkRulingAround(t, toSouth, steady(hullOf(0, 0, -1, -maxHeading, 50)), steady(hullOf(0, 0, 1, -maxHeading, 50)), keptClearIf(false, impl.ReasonOpposite))
}

func TestBoatsOnPortTackKeepClear(t *testing.T) {
	first := keptClearIf(true, impl.ReasonOpposite)
	for _, heading := range []impl.Point{{X: 3, Y: 4}, {X: 3, Y: -4}, {X: 5}, {X: 1, Y: 2000}, {X: maxHeading, Y: -maxHeading}} {
		port := impl.Hull{Heading: heading, Length: 50}
		for _, other := range []impl.Point{{X: -3, Y: 4}, {X: -3, Y: -4}, {X: -5}, {X: -1, Y: -2000}, {X: -maxHeading, Y: maxHeading}} {
			starboard := impl.Hull{Heading: other, Length: 40}
			// To windward, to leeward, level, ahead, astern and apart.
			for _, bow := range []impl.Point{{}, {X: 9, Y: 10}, {X: -9, Y: -10}, {X: 60}, {Y: 3000}, {Y: -3000}, {X: 3000}, {X: -3000}, {X: 3000, Y: 3000}} {
				checkRulingAround(t, toSouth, steady(port), steady(at(bow.X, bow.Y, starboard)), first)
				checkRulingAround(t, toSouth, steady(at(bow.X, bow.Y, starboard)), steady(port), exchangedRuling(first))
			}
		}
	}
}

func TestBoatsAsternKeepClear(t *testing.T) {
	const m = impl.MaxCoord
	first, second := keptClearIf(true, impl.ReasonAstern), keptClearIf(false, impl.ReasonAstern)
	windward, leeward := keptClearIf(true, impl.ReasonWindward), keptClearIf(false, impl.ReasonWindward)
	reach := hullOf(0, 0, 1, 0, 50)
	for _, row := range []struct {
		name string
		a, b impl.Hull
		want impl.Ruling
	}{
		{"far astern", onPort, at(-60, -80, onPort), second},
		{"far ahead", onPort, at(60, 80, onPort), first},
		{"astern, and to windward", hullOf(0, 0, 3, -4, 50), hullOf(-60, 80, 3, -4, 50), second},
		{"ahead, and to windward", onPort, at(-10, 200, onPort), first},
		{"at the stern", onPort, at(-30, -40, onPort), windward},
		{"just behind the stern", onPort, at(-29, -41, onPort), second},
		{"just not at the stern", onPort, at(-31, -39, onPort), windward},
		{"ahead by the length", onPort, at(30, 40, onPort), leeward},
		{"ahead by more", onPort, at(29, 41, onPort), first},
		{"ahead by more, but a longer one", onPort, hullOf(29, 41, 3, 4, 51), leeward},
		{"level and just astern", reach, at(-51, 0, reach), second},
		{"level and just ahead", reach, at(51, 0, reach), first},
		{"level and at the stern", reach, at(-50, 0, reach), unclear},
		{"on starboard tack, astern", onStarboard, at(60, -80, onStarboard), second},
		{"on starboard tack, ahead", onStarboard, at(-60, 80, onStarboard), first},
		{"with another heading, astern", onPort, hullOf(-60, -80, 1, 0, 50), second},
		{"with another heading, ahead", hullOf(-60, -80, 1, 0, 50), onPort, first},
		{"apart", hullOf(0, 0, 1, 5, 50), hullOf(0, -100, 1, -5, 50), unclear},
		{"apart on starboard tack", hullOf(0, 0, -1, 5, 50), hullOf(0, -100, -1, -5, 50), unclear},
		{"apart, but the first one longer", hullOf(0, 0, 1, 5, 99), hullOf(0, -100, 1, -5, 50), first},
		{"apart, but the second one longer", hullOf(0, 0, 1, 5, 50), hullOf(0, -100, 1, -5, 99), second},
		{"toward each other", hullOf(0, -100, 1, 5, 50), hullOf(0, 0, 1, -5, 50), leeward},
		{"far away, astern", hullOf(m, m, maxHeading, maxHeading, 1000), hullOf(-m, -m, maxHeading, maxHeading, 1000), second},
		{"far away, ahead", hullOf(-m, -m, maxHeading, maxHeading, 1), hullOf(m, m, maxHeading, maxHeading, 1), first},
	} {
		t.Run(row.name, func(t *testing.T) {
			for _, w := range []impl.Wind{toSouth, {Y: -7}, {Y: -impl.MaxWind}} {
				checkRulingAround(t, w, steady(row.a), steady(row.b), row.want)
				checkRulingAround(t, w, steady(row.b), steady(row.a), exchangedRuling(row.want))
			}
		})
	}
}

func TestBoatsToWindwardKeepClear(t *testing.T) {
	const m = impl.MaxCoord
	first, second := keptClearIf(true, impl.ReasonWindward), keptClearIf(false, impl.ReasonWindward)
	slant := impl.Wind{X: 3, Y: 4}
	for _, row := range []struct {
		name string
		w    impl.Wind
		a, b impl.Hull
		want impl.Ruling
	}{
		{"the first one", toSouth, onPort, at(10, -10, onPort), first},
		{"the second one", toSouth, onPort, at(-10, 10, onPort), second},
		{"the first one, by one", toSouth, at(30, 1, onPort), at(-1, 0, onPort), first},
		{"the second one, by one", toSouth, at(-30, -1, onPort), at(1, 0, onPort), second},
		{"none", toSouth, at(9, 6, onPort), at(-9, 6, onPort), unclear},
		{"none at one point", toSouth, onPort, onPort, unclear},
		{"none at one point, with other headings", toSouth, onPort, hullOf(0, 0, 5, -1, 7), unclear},
		{"on starboard tack", toSouth, onStarboard, at(10, -10, onStarboard), first},
		{"downwind", toSouth, hullOf(0, 0, 3, -4, 50), hullOf(10, 10, 3, -4, 50), second},
		{"with other headings", toSouth, onPort, hullOf(10, -10, 5, -1, 12), first},
		{"level in a slanting wind", slant, hullOf(4, -3, 1, 0, 50), hullOf(-4, 3, 1, 0, 50), unclear},
		{"by a product of one less", slant, hullOf(5, -4, 1, 0, 50), hullOf(0, 0, 1, 0, 50), first},
		{"by a product of one more", slant, hullOf(-1, 1, 1, 0, 50), hullOf(0, 0, 1, 0, 50), second},
		{"far", impl.Wind{X: 1000, Y: 1000}, hullOf(m, -m, -maxHeading, maxHeading-1, 1000), hullOf(m, 1-m, -maxHeading, maxHeading-1, 1000), first},
		{"far and level", impl.Wind{X: 1000, Y: 1000}, hullOf(m, m-9, -maxHeading, maxHeading-1, 1000), hullOf(m-9, m, -maxHeading, maxHeading-1, 1000), unclear},
	} {
		t.Run(row.name, func(t *testing.T) {
			checkRulingAround(t, row.w, steady(row.a), steady(row.b), row.want)
			checkRulingAround(t, row.w, steady(row.b), steady(row.a), exchangedRuling(row.want))
		})
	}
}

// A boat cannot keep clear of itself, whether it turns or not.
func TestABoatWithItselfIsUnclear(t *testing.T) {
	for k, h := range validHulls() {
		for _, w := range []impl.Wind{toSouth, {X: 3, Y: 4}, {X: -impl.MaxWind, Y: impl.MaxWind}} {
			b := impl.Boat{Hull: h, Turning: k%2 == 0}
			if r := checkRuling(t, w, b, b); r != unclear {
				t.Fatalf("RuleOn(%v, %v, %v) = %v", w, b, b, r)
			}
		}
	}
}

// randomBoat turns once in five times.
func randomBoat(random *rand.Rand, bowLimit, headingLimit, length int64) impl.Boat {
	return impl.Boat{Hull: randomHull(random, bowLimit, headingLimit, length), Turning: random.Intn(5) == 0}
}

func TestRulingsDoNotDependOnTheOrder(t *testing.T) {
	counts := map[impl.Ruling]int{}
	random := rand.New(rand.NewSource(41))
	for k := range 40000 {
		w := randomWind(random, []int64{1, 4, impl.MaxWind}[k%3])
		bow, heading, length := []int64{5, 60, 1500, impl.MaxCoord}[k%4], []int64{1, 6, maxHeading}[k/2%3], []int64{8, 80, impl.MaxHullLength}[k%3]
		a, b := randomBoat(random, bow, heading, length), randomBoat(random, bow, heading, length)
		// Every seventh pair is level.
		if level := plus(a.Hull.Bow, impl.Point{X: w.Y, Y: -w.X}); k%7 == 0 && impl.IsPoint(level) {
			b.Hull.Bow = level
		}
		counts[checkRuling(t, w, a, b)]++
	}
	for _, reason := range []int64{impl.ReasonTurning, impl.ReasonOpposite, impl.ReasonAstern, impl.ReasonWindward} {
		for keeper := int64(1); keeper <= 2; keeper++ {
			if counts[impl.Ruling{Keeper: keeper, Reason: reason}] < 1000 {
				t.Errorf("rulings: %v", counts)
			}
		}
	}
	if counts[unclear] < 1000 || len(counts) != 9 {
		t.Errorf("rulings: %v", counts)
	}
}

func TestRulingsOfHullsOfAllHeadings(t *testing.T) {
	hulls := someHullsOf(1, 40, impl.MaxHullLength)
	for k, a := range hulls {
		for n, b := range hulls {
			w := []impl.Wind{toSouth, {X: 3, Y: 4}, {X: impl.MaxWind, Y: -impl.MaxWind}}[(k+n)%3]
			checkRuling(t, w, steady(a), steady(b))
			checkRuling(t, w, impl.Boat{Hull: a, Turning: n%2 == 0}, impl.Boat{Hull: b, Turning: k%2 == 0})
		}
	}
}

// The relation of two hulls is found by ranging over a map: the ruling must not change with its
// order.
func TestRulingsDoNotChange(t *testing.T) {
	for _, b := range []impl.Hull{at(-60, -80, onPort), at(60, 80, onPort), at(10, -10, onPort), hullOf(0, -100, 1, -5, 50)} {
		want := expectedRuling(toSouth, steady(onPort), steady(b))
		for range 500 {
			if r := ruleOn(t, toSouth, steady(onPort), steady(b)); r != want {
				t.Fatalf("RuleOn(%v, %v, %v) = %v, want %v", toSouth, onPort, b, r, want)
			}
		}
	}
}

// Neither the strength of the wind nor the lengths of headings count.
func TestRulingsDoNotDependOnLengths(t *testing.T) {
	random := rand.New(rand.NewSource(42))
	for range 3000 {
		w := randomWind(random, 5)
		a, b := randomBoat(random, 100, 7, 90), randomBoat(random, 100, 7, 90)
		want := checkRuling(t, w, a, b)
		for _, factor := range []int64{2, 9, 200} {
			longA, longB := a, b
			longA.Hull.Heading = impl.Point{X: factor * a.Hull.Heading.X, Y: factor * a.Hull.Heading.Y}
			longB.Hull.Heading = impl.Point{X: 1000 * factor * b.Hull.Heading.X, Y: 1000 * factor * b.Hull.Heading.Y}
			strong := impl.Wind{X: factor * w.X, Y: factor * w.Y}
			if r := ruleOn(t, strong, longA, longB); r != want {
				t.Fatalf("RuleOn(%v, %v, %v) = %v, want %v", strong, longA, longB, r, want)
			}
		}
	}
}
