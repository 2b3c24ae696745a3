package tests

import (
	"math/rand"
	"slices"
	"testing"

	"loop.example/g00887/impl"
)

// expectedTimes follows a track along the lines of the document, with the crossings of the tests.
func expectedTimes(c impl.Course, track impl.Track) []int64 {
	lines := []impl.Line{c.Start}
	for k := range c.Marks {
		lines = append(lines, expectedRoundingLine(c, k))
	}
	times := []int64{}
	from := int64(0)
	for _, l := range append(lines, c.Finish) {
		crossing, found := expectedFirst(expectedCrossings(track, l), 1, from)
		if !found {
			break
		}
		from = crossing.Time
		times = append(times, from)
	}
	return times
}

func countUpTo(times []int64, time int64) int64 {
	count := int64(0)
	for _, reached := range times {
		if reached <= time {
			count++
		}
	}
	return count
}

// timesAround are times before, at and after each station, within the track, beyond it, and
// negative.
func timesAround(track impl.Track, times []int64) []int64 {
	list := append(timesOutside(track), 0, firstTime(track), lastTime(track), (firstTime(track)+lastTime(track))/2)
	for _, time := range times {
		list = append(list, time-1, time, time+1)
	}
	return list
}

// checkSailing checks all that is known of a track that reaches the stations at the times wanted.
func checkSailing(t *testing.T, c impl.Course, track impl.Track, want []int64) {
	t.Helper()
	if times, code := impl.TimesSailed(c, track); code != impl.ErrNone || !slices.Equal(times, want) {
		t.Fatalf("TimesSailed(%v, %v) = %v, %d, want %v", c, track, times, code, want)
	}
	finish, code := impl.FinishTime(c, track)
	hasFinished := len(want) == len(c.Marks)+2
	if hasFinished && (code != impl.ErrNone || finish != want[len(want)-1]) || !hasFinished && (code != impl.ErrNotFound || finish != 0) {
		t.Fatalf("FinishTime(%v, %v) = %d, %d, but the times are %v", c, track, finish, code, want)
	}
	legs := []int64{}
	for k := range max(len(want), 1) - 1 {
		legs = append(legs, want[k+1]-want[k])
	}
	if list, code := impl.LegTimes(c, track); code != impl.ErrNone || !slices.Equal(list, legs) {
		t.Fatalf("LegTimes(%v, %v) = %v, %d, want %v", c, track, list, code, legs)
	}
	for _, time := range timesAround(track, want) {
		if n, code := impl.ReachedAt(c, track, time); code != impl.ErrNone || n != countUpTo(want, time) {
			t.Fatalf("ReachedAt(%v, %v, %d) = %d, %d, but the times are %v", c, track, time, n, code, want)
		}
		checkDistance(t, c, track, time, want)
	}
}

func checkDistance(t *testing.T, c impl.Course, track impl.Track, time int64, times []int64) {
	t.Helper()
	n, code := impl.DistanceToNext(c, track, time)
	next := countUpTo(times, time)
	stations := expectedStations(c)
	wantCode := int64(impl.ErrNone)
	switch {
	case next == int64(len(stations)):
		wantCode = impl.ErrState
	case time < firstTime(track) || time > lastTime(track):
		wantCode = impl.ErrLimit
	case !isLength(n, expectedPosition(track, time), stations[next]):
		t.Fatalf("DistanceToNext(%v, %v, %d) = %d, %d, which is not the distance from %v to %v", c, track, time, n, code, expectedPosition(track, time), stations[next])
	}
	if code != wantCode || code != impl.ErrNone && n != 0 {
		t.Fatalf("DistanceToNext(%v, %v, %d) = %d, %d, want the code %d", c, track, time, n, code, wantCode)
	}
}

// shortCourse leads to the north, around the mark with the rounding line from {-30, 100} to {0, 100},
// and to the east through the finish.
func shortCourse() impl.Course {
	return course(line(-10, 0, 10, 0), line(50, 20, 50, -20), mark("top", 0, 100, impl.MarkStarboard, 3))
}

// squareCourse leads to the north, around the first mark, to the east, around the second one, whose
// rounding line is that from {100, 130} to {100, 100}, and to the south.
func squareCourse() impl.Course {
	return course(line(-10, 0, 10, 0), line(120, 50, 80, 50), mark("left", 0, 100, impl.MarkStarboard, 3), mark("right", 100, 100, impl.MarkStarboard, 3))
}

// joined makes a track of parts, each of which has three numbers a fix.
func joined(parts ...[]int64) impl.Track { return trackOf(slices.Concat(parts...)...) }

// The parts of a track that reaches the stations of shortCourse at 10, 150 and 350.
var (
	startPart  = []int64{0, 0, -10, 100, -5, 90}
	roundPart  = []int64{200, -5, 110}
	finishPart = []int64{300, 40, 0, 400, 60, 0}
)

func TestSailingAShortCourse(t *testing.T) {
	for _, c := range []struct {
		name  string
		track impl.Track
		want  []int64
	}{
		{"sails the course", joined(startPart, roundPart, finishPart), []int64{10, 150, 350}},
		{"never starts", trackOf(0, 0, -10, 100, 5, -1, 200, 5, -20), nil},
		{"passes beside the start", trackOf(0, 11, -10, 100, 11, 90, 200, -5, 110), nil},
		{"is behind the start", trackOf(0, 0, 5, 100, -5, 90, 200, -5, 110, 300, 40, 0, 400, 60, 0), nil},
		{"stops on the start", trackOf(0, 0, -10, 100, 0, 0, 200, 0, 0), nil},
		{"starts from the line", trackOf(5, 0, 0, 15, 0, 10), []int64{5}},
		{"starts at the time 0", trackOf(0, 0, 0, 15, 0, 10), []int64{0}},
		{"starts at its end", trackOf(3, 10, -10, 23, 10, 10), []int64{13}},
		{"starts backward", trackOf(0, 0, 10, 100, 0, -10, 200, 0, -30), nil},
		{"starts backward and forward", trackOf(0, 0, 10, 100, 0, -10, 200, 0, 10), []int64{150}},
		{"starts forward and backward", trackOf(0, 0, -10, 20, 0, 10, 40, 0, -10), []int64{10}},
		{"starts twice", trackOf(0, 0, -10, 20, 0, 10, 40, 0, -10, 60, 0, 10), []int64{10}},
		{"starts twice and rounds the mark", trackOf(0, 0, -10, 20, 0, 10, 40, 0, -10, 60, 0, 10, 70, -5, 90, 90, -5, 110), []int64{10, 80}},
		{"starts again behind the mark", trackOf(0, 0, -10, 20, 0, 10, 100, -5, 90, 120, -5, 110, 200, -40, 110, 300, -40, -10, 400, 0, -10, 420, 0, 10), []int64{10, 110}},
		{"rounds the mark before the start only", trackOf(0, -5, 90, 10, -5, 110, 20, -40, 110, 30, -40, -10, 40, 0, -10, 60, 0, 10), []int64{50}},
		{"stops before the mark", joined(startPart), []int64{10}},
		{"stops on the rounding line", trackOf(0, 0, -10, 110, -5, 100), []int64{10}},
		{"sails on from the rounding line", trackOf(0, 0, -10, 110, -5, 100, 120, -5, 101), []int64{10, 110}},
		{"passes on the wrong side", trackOf(0, 0, -10, 100, 5, 90, 200, 5, 110, 300, 40, 0, 400, 60, 0), []int64{10}},
		{"passes the mark by 1", trackOf(0, 0, -10, 100, 1, 90, 200, 1, 110, 300, 40, 0, 400, 60, 0), []int64{10}},
		{"touches the mark", trackOf(0, 0, -10, 100, 0, 90, 120, 0, 110), []int64{10, 110}},
		{"rounds at the end of the line", trackOf(0, 0, -10, 110, -30, 90, 130, -30, 110), []int64{11, 120}},
		{"rounds too far away", trackOf(0, 0, -10, 110, -31, 90, 130, -31, 110), []int64{11}},
		{"rounds in the wrong direction", trackOf(0, 0, -10, 20, 0, 10, 30, 5, 110, 40, -5, 110, 60, -5, 90, 70, 40, 0, 80, 60, 0), []int64{10}},
		{"rounds in the wrong direction and then in the right one", trackOf(0, 0, -10, 20, 0, 10, 30, 5, 110, 40, -5, 110, 60, -5, 90, 80, -5, 110), []int64{10, 70}},
		{"stops before the finish", joined(startPart, roundPart, []int64{300, 40, 0, 400, 50, 0}), []int64{10, 150}},
		{"finishes backward", joined(startPart, roundPart, []int64{300, 60, 110, 400, 60, 0, 500, 40, 0}), []int64{10, 150}},
		{"finishes backward and then forward", joined(startPart, roundPart, []int64{300, 60, 110, 400, 60, 0, 500, 40, 0, 600, 60, 0}), []int64{10, 150, 550}},
		{"passes beside the finish", joined(startPart, roundPart, []int64{300, 40, 21, 400, 60, 21}), []int64{10, 150}},
		{"finishes before the mark only", trackOf(0, 0, -10, 20, 0, 10, 40, 40, 10, 60, 60, 10, 80, -5, 90, 100, -5, 110), []int64{10, 90}},
		{"finishes before the mark and behind it", trackOf(0, 0, -10, 20, 0, 10, 40, 40, 10, 60, 60, 10, 80, -5, 90, 100, -5, 110, 120, 40, 10, 140, 60, 10), []int64{10, 90, 130}},
		{"sails on after the finish", joined(startPart, roundPart, finishPart, []int64{500, 60, -30, 600, 0, -10, 700, 0, 10, 800, -5, 90, 900, -5, 110, 1000, 40, 0, 1100, 60, 0}), []int64{10, 150, 350}},
		{"rounds the mark twice", joined(startPart, roundPart, []int64{210, -40, 110, 220, -40, 90, 230, -5, 90, 250, -5, 110, 300, 40, 0, 400, 60, 0}), []int64{10, 150, 350}},
		{"goes back through the start after it", trackOf(0, 0, -10, 20, 0, 10, 40, 0, -10, 60, -11, 0, 110, -5, 90, 130, -5, 110), []int64{10, 120}},
	} {
		t.Run(c.name, func(t *testing.T) {
			checkSailing(t, shortCourse(), c.track, c.want)
			if times := expectedTimes(shortCourse(), c.track); !slices.Equal(times, c.want) {
				t.Errorf("the tests expect %v of %v, not %v", times, c.track, c.want)
			}
		})
	}
}

// The parts reach their station at the time that is given.
func TestSailingASquareCourse(t *testing.T) {
	first := []int64{0, 0, -10, 20, 0, 10}
	left := func(time int64) []int64 { return []int64{time - 10, -5, 90, time + 10, -5, 110} }
	right := func(time int64) []int64 { return []int64{time - 10, 90, 110, time + 10, 110, 110} }
	end := func(time int64) []int64 { return []int64{time - 10, 100, 60, time + 10, 100, 40} }
	for _, c := range []struct {
		name  string
		track impl.Track
		want  []int64
	}{
		{"sails the course", joined(first, left(100), right(200), end(300)), []int64{10, 100, 200, 300}},
		{"rounds the marks in the wrong order", joined(first, right(100), left(200), end(300)), []int64{10, 200}},
		{"rounds the second mark again", joined(first, right(100), left(200), right(300)), []int64{10, 200, 300}},
		{"rounds the second mark again and finishes", joined(first, right(100), left(200), right(300), end(400)), []int64{10, 200, 300, 400}},
		{"misses the first mark", joined(first, right(100), end(200)), []int64{10}},
		{"misses the second mark", joined(first, left(100), end(200)), []int64{10, 100}},
		{"misses both marks", joined(first, end(200)), []int64{10}},
		{"starts behind the marks", joined(left(100), right(200), []int64{300, 0, -10, 320, 0, 10}, end(400)), []int64{310}},
		{"finishes first", joined(end(100), []int64{200, 0, -10, 220, 0, 10}, left(300), right(400)), []int64{210, 300, 400}},
	} {
		t.Run(c.name, func(t *testing.T) {
			checkSailing(t, squareCourse(), c.track, c.want)
			if times := expectedTimes(squareCourse(), c.track); !slices.Equal(times, c.want) {
				t.Errorf("the tests expect %v of %v, not %v", times, c.track, c.want)
			}
		})
	}
}

// The rounding line leads from {0, 100} to {500, 100}. The finish may be a part of it.
func TestStationsReachedAtTheSameTime(t *testing.T) {
	flat, slanted := line(-10, 0, 10, 0), line(-1000, -1000, 1000, 1000)
	wide, north := mark("wide", 0, 100, impl.MarkPort, 50), line(-10, 200, 10, 200)
	for _, c := range []struct {
		name  string
		c     impl.Course
		track impl.Track
		want  []int64
	}{
		{"in one millisecond", course(flat, north, wide), trackOf(0, 5, -10, 1, 5, 290), []int64{1, 1, 1}},
		{"in the last millisecond", course(flat, north, wide), trackOf(impl.MaxTime-1, 5, -10, impl.MaxTime, 5, 290), []int64{impl.MaxTime, impl.MaxTime, impl.MaxTime}},
		{"the start and the mark", course(flat, north, wide), trackOf(0, 5, -10, 1, 5, 150, 101, 5, 250), []int64{1, 1, 51}},
		{"the mark and the finish", course(flat, north, wide), trackOf(0, 5, -10, 20, 5, 10, 21, 5, 290), []int64{10, 21, 21}},
		{"by one crossing", course(flat, line(-10, 100, 20, 100), wide), trackOf(0, 5, -10, 20, 5, 10, 120, 5, 110), []int64{10, 110, 110}},
		// The mark is rounded before the start is crossed, but their Times are equal.
		{"in the wrong order within a millisecond", course(slanted, north, wide), trackOf(0, 400, 0, 1, 400, 500), []int64{1, 1}},
		{"in the wrong order", course(slanted, north, wide), trackOf(0, 400, 0, 500, 400, 500), []int64{400}},
		{"in the wrong order, 1 apart", course(slanted, north, wide), trackOf(0, 102, 97, 5, 102, 107), []int64{3}},
	} {
		t.Run(c.name, func(t *testing.T) {
			checkSailing(t, c.c, c.track, c.want)
			if times := expectedTimes(c.c, c.track); !slices.Equal(times, c.want) {
				t.Errorf("the tests expect %v of %v, not %v", times, c.track, c.want)
			}
		})
	}
}

// throughAll crosses all lines of a course in their middles, in order, as far as its fixes are
// enough; it need not be valid.
func throughAll(c impl.Course) impl.Track {
	lines := []impl.Line{c.Start}
	for k := range c.Marks {
		lines = append(lines, expectedRoundingLine(c, k))
	}
	track := impl.Track{}
	for k, l := range append(lines, c.Finish) {
		p, way := middleOf(l), minus(l.B, l.A)
		longest := max(way.X, -way.X, way.Y, -way.Y)
		across := impl.Point{X: -way.Y * 20 / longest, Y: way.X * 20 / longest}
		from, to := minus(p, across), plus(p, across)
		time := int64(k*k*1000 + 7*k)
		track.Fixes = append(track.Fixes, impl.Fix{Time: time, X: from.X, Y: from.Y}, impl.Fix{Time: time + 13, X: to.X, Y: to.Y})
	}
	return track
}

func hasRoundingLines(c impl.Course) bool {
	for k := range c.Marks {
		if !impl.IsLine(expectedRoundingLine(c, k)) {
			return false
		}
	}
	return true
}

// sailableCourses are valid, and so are their rounding lines.
func sailableCourses() []impl.Course {
	courses := append(validCourses(), shortCourse(), squareCourse())
	return slices.DeleteFunc(courses, func(c impl.Course) bool { return !hasRoundingLines(c) })
}

func TestSailingAllCourses(t *testing.T) {
	finished := 0
	for _, c := range sailableCourses() {
		through := throughAll(c)
		tracks := []impl.Track{windingTrack(impl.MaxFixes, 3), zigzag(impl.MaxFixes), joined(startPart, roundPart, finishPart)}
		if impl.IsTrack(through) {
			tracks = append(tracks, through, sailedBack(through))
			finished += len(expectedTimes(c, through)) / (len(c.Marks) + 2)
		}
		for _, track := range append(tracks, farTracks()...) {
			checkSailing(t, c, track, expectedTimes(c, track))
		}
	}
	if finished < 15 {
		t.Errorf("only %d tracks finish", finished)
	}
}

func randomPoint(random *rand.Rand, limit int64) impl.Point {
	return impl.Point{X: random.Int63n(2*limit+1) - limit, Y: random.Int63n(2*limit+1) - limit}
}

// randomCourse has up to three marks, so near to each other that tracks often cross their lines.
func randomCourse(random *rand.Rand) impl.Course {
	for {
		c := course(
			impl.Line{A: randomPoint(random, 12), B: randomPoint(random, 12)},
			impl.Line{A: randomPoint(random, 12), B: randomPoint(random, 12)})
		for k := range 1 + random.Intn(3) {
			at := randomPoint(random, 15)
			c.Marks = append(c.Marks, mark("abc"[k:k+1], at.X, at.Y, 1+random.Int63n(2), 1+random.Int63n(2)))
		}
		if impl.IsCourse(c) {
			return c
		}
	}
}

// randomTrack has so short legs that stations may be reached in one millisecond.
func randomTrack(random *rand.Rand) impl.Track {
	track := impl.Track{}
	time := random.Int63n(5)
	for range 2 + random.Intn(impl.MaxFixes-1) {
		p := randomPoint(random, 20)
		track.Fixes = append(track.Fixes, impl.Fix{Time: time, X: p.X, Y: p.Y})
		time += 1 + random.Int63n(3)
	}
	return track
}

func TestSailingRandomCourses(t *testing.T) {
	random := rand.New(rand.NewSource(6))
	counts := map[int]int{}
	for range 1000 {
		c, track := randomCourse(random), randomTrack(random)
		want := expectedTimes(c, track)
		checkSailing(t, c, track, want)
		counts[len(want)]++
	}
	for k := range 6 {
		if counts[k] < 10 {
			t.Errorf("of the tracks, only %d reach just %d stations", counts[k], k)
		}
	}
}

func TestStationsAreReachedInOrder(t *testing.T) {
	random := rand.New(rand.NewSource(7))
	for range 300 {
		c, track := randomCourse(random), randomTrack(random)
		times, code := impl.TimesSailed(c, track)
		if code != impl.ErrNone || !slices.IsSorted(times) {
			t.Fatalf("TimesSailed(%v, %v) = %v, %d", c, track, times, code)
		}
		before := int64(0)
		for time := int64(-2); time <= lastTime(track)+2; time++ {
			n, code := impl.ReachedAt(c, track, time)
			if code != impl.ErrNone || n < before {
				t.Fatalf("ReachedAt(%v, %v, %d) = %d, %d, but %d stations were reached before", c, track, time, n, code, before)
			}
			before = n
		}
		if before != int64(len(times)) {
			t.Fatalf("%v reaches %d stations of %v at %v", track, before, c, times)
		}
	}
}

// What follows does not change the stations that a boat has reached.
func TestBoatsThatHaveFinishedStayFinished(t *testing.T) {
	random := rand.New(rand.NewSource(8))
	finished := 0
	for range 300 {
		c, track := randomCourse(random), randomTrack(random)
		times, _ := impl.TimesSailed(c, track)
		for n := 2; n < len(track.Fixes); n++ {
			part := impl.Track{Fixes: track.Fixes[:n]}
			early, code := impl.TimesSailed(c, part)
			if code != impl.ErrNone || len(early) > len(times) || !slices.Equal(early, times[:len(early)]) {
				t.Fatalf("in %v, %v reaches stations at %v, %d, but its first %d fixes at %v", c, track, times, code, n, early)
			}
			before, code := impl.FinishTime(c, part)
			if code != impl.ErrNone {
				continue
			}
			finished++
			if after, code := impl.FinishTime(c, track); code != impl.ErrNone || after != before {
				t.Fatalf("in %v, %v finishes at %d, %d, but its first %d fixes at %d", c, track, after, code, n, before)
			}
		}
	}
	if finished < 50 {
		t.Errorf("only %d parts of tracks finish", finished)
	}
}
