package tests

import (
	"math/rand"
	"testing"

	"loop.example/g00887/impl"
)

// expectedComing returns the time of the first fix of the first leg that touches the zone, or -1.
func expectedComing(m impl.Mark, track impl.Track) int64 {
	if legs := expectedLegs(m, track); len(legs) > 0 {
		return track.Fixes[legs[0]].Time
	}
	return -1
}

// expectedRoomTime returns -1 if no track comes.
func expectedRoomTime(m impl.Mark, first, second impl.Track) int64 {
	a, b := expectedComing(m, first), expectedComing(m, second)
	if a >= 0 && b >= 0 {
		return min(a, b)
	}
	return max(a, b)
}

// foundTime returns a time and its code, which is ErrNotFound for -1.
func foundTime(time int64) (int64, int64) {
	if time < 0 {
		return 0, impl.ErrNotFound
	}
	return time, impl.ErrNone
}

// checkComing checks the time at which a track comes to the mark k, which is -1 if it does not.
func checkComing(t *testing.T, c impl.Course, k int, track impl.Track, want int64) {
	t.Helper()
	wantTime, wantCode := foundTime(want)
	if time, code := impl.ComesAt(c, int64(k), track); time != wantTime || code != wantCode {
		t.Fatalf("ComesAt(%v, %d, %v) = %d, %d, want %d, %d", c, k, track, time, code, wantTime, wantCode)
	}
	legs, _ := impl.LegsInZone(c, int64(k), track)
	if (len(legs) > 0) != (want >= 0) || len(legs) > 0 && track.Fixes[legs[0]].Time != want {
		t.Fatalf("ComesAt(%v, %d, %v) = %d, but LegsInZone %v", c, k, track, want, legs)
	}
}

// checkRoomTime checks the room time in both orders; it is -1 if no track comes.
func checkRoomTime(t *testing.T, c impl.Course, k int, first, second impl.Track, want int64) {
	t.Helper()
	wantTime, wantCode := foundTime(want)
	for _, pair := range [][2]impl.Track{{first, second}, {second, first}} {
		if time, code := impl.RoomTime(c, int64(k), pair[0], pair[1]); time != wantTime || code != wantCode {
			t.Fatalf("RoomTime(%v, %d, %v, %v) = %d, %d, want %d, %d", c, k, pair[0], pair[1], time, code, wantTime, wantCode)
		}
	}
}

// The mark is at {0, 0}, with a zone of 5.
func TestComesAt(t *testing.T) {
	const end = impl.MaxTime
	for _, row := range []struct {
		name  string
		track impl.Track
		want  int64
	}{
		{"begins in the zone", trackOf(7, 1, 1, 10, 9, 9, 20, 9, 10), 7},
		{"begins in the zone at the time 0", trackOf(0, 1, 1, 10, 9, 9), 0},
		{"begins at the mark, and stays", stay(impl.Point{}), 10},
		{"begins at the radius, and stays", stay(impl.Point{X: 3, Y: -4}), 10},
		{"stays beside the zone", stay(impl.Point{X: 4, Y: -4}), -1},
		{"begins at the radius, and leaves", trackOf(3, 5, 0, 4, 6, 0, 5, 7, 0), 3},
		{"begins just outside", trackOf(3, 6, 0, 4, 7, 0, 5, 8, 0), -1},
		{"through the mark on its first leg", trackOf(3, -9, 0, 10, 9, 0, 20, 9, 9), 3},
		{"touches it at a point", trackOf(3, 5, 9, 4, 5, -9), 3},
		{"passes just beside it", trackOf(3, 6, 9, 4, 6, -9), -1},
		{"touches it at a point on a slanting leg", trackOf(3, 25, 0, 4, -7, 24, 5, -7, 99), -1},
		{"touches it at the point {3, 4}", trackOf(3, 11, -2, 4, -5, 10), 3},
		{"passes near to {3, 4}", trackOf(3, 11, -1, 4, -5, 10), -1},
		{"touches it with the last fix", trackOf(3, 9, 9, 6, 9, 0, 9, 5, 0), 6},
		{"just not with the last fix", trackOf(3, 9, 9, 6, 9, 0, 9, 6, 0), -1},
		{"touches it at a fix in the middle", trackOf(3, 9, 9, 6, 0, 5, 9, -9, 9), 3},
		{"touches it on its second leg", trackOf(3, -9, 9, 6, -9, 0, 9, 9, 0), 6},
		{"touches it on its third leg", trackOf(3, -9, 9, 6, -9, 8, 8, -9, 0, 9, 9, 0), 8},
		{"touches it on its last leg", trackOf(3, -9, 9, 6, -9, 8, 8, -9, 7, 100, -9, 0, 900, -5, 0), 100},
		{"touches it twice", trackOf(12, -9, 9, 13, -9, 0, 14, 9, 0, 16, 9, 1, 18, -9, 1), 13},
		{"touches it on two legs in a row", trackOf(12, -9, 9, 13, -9, 0, 14, 0, 0, 16, 9, 0), 13},
		{"a leg without length outside, then through it", trackOf(1, -9, 0, 5, -9, 0, 8, 9, 0), 5},
		{"to the zone, and a leg without length in it", trackOf(1, -9, 9, 5, -9, 0, 8, -5, 0, 9, -5, 0), 5},
		{"the leg begins long before the zone", trackOf(2, -9, 0, 900, 0, 0), 2},
		{"at the greatest times", trackOf(0, 9, 9, end-1, 9, 0, end, -9, 0), end - 1},
		{"for all time", trackOf(0, -9, 0, end, 9, 0), 0},
		{"never", trackOf(0, 9, 9, 10, 9, 8, 20, 8, 9), -1},
	} {
		t.Run(row.name, func(t *testing.T) {
			c := zoneCourse(0, 0, 5)
			if row.want != expectedComing(c.Marks[0], row.track) {
				t.Errorf("the tests expect %d", expectedComing(c.Marks[0], row.track))
			}
			checkComing(t, c, 0, row.track, row.want)
			checkRoomTime(t, c, 0, row.track, row.track, row.want)
		})
	}
}

func TestComingToTheMarksOfACourse(t *testing.T) {
	c := course(line(-10, 0, 10, 0), line(0, 900, 20, 900),
		mark("a", 0, 100, impl.MarkPort, 10), mark("b", 0, 300, impl.MarkStarboard, 20), mark("c", 0, 500, impl.MarkPort, 30), mark("d", 0, 700, impl.MarkPort, 10))
	track := trackOf(0, 15, 0, 9, 15, 200, 20, 15, 400, 33, 15, 600, 50, 15, 800)
	for k, want := range []int64{-1, 9, 20, -1} {
		checkComing(t, c, k, track, want)
		checkRoomTime(t, c, k, track, later(track, 4), want)
	}
}

func TestComingOnAllCourses(t *testing.T) {
	for _, c := range validCourses() {
		for k, m := range c.Marks {
			tracks := append(sailedTracks(), stay(m.At))
			for n, track := range tracks {
				checkComing(t, c, k, track, expectedComing(m, track))
				other := tracks[(n*7+k)%len(tracks)]
				checkRoomTime(t, c, k, track, other, expectedRoomTime(m, track, other))
			}
		}
	}
}

func TestComingOfRandomTracks(t *testing.T) {
	counts := map[bool]int{}
	random := rand.New(rand.NewSource(54))
	for range 1500 {
		c, first, second := zoneCourseAt(random), randomTrack(random), randomTrack(random)
		first.Fixes = first.Fixes[:2+random.Intn(min(3, len(first.Fixes)-1))]
		checkComing(t, c, 0, first, expectedComing(c.Marks[0], first))
		checkComing(t, c, 0, second, expectedComing(c.Marks[0], second))
		want := expectedRoomTime(c.Marks[0], first, second)
		checkRoomTime(t, c, 0, first, second, want)
		counts[want < 0]++
	}
	if counts[true] < 30 || counts[false] < 500 {
		t.Errorf("room times: %v", counts)
	}
}

// The numbers are the times at which the tracks come to the mark at {0, 0}.
func TestRoomTime(t *testing.T) {
	const end = impl.MaxTime
	away := trackOf(0, 9, 9, 10, 9, 8, 20, 8, 9)
	at0, at10, at20 := trackOf(0, -9, 0, 10, 9, 0), trackOf(0, -9, 9, 10, -9, 0, 20, 9, 0), trackOf(0, -9, 9, 5, -9, 8, 20, -9, 0, 30, 9, 0)
	last := trackOf(0, 9, 9, end-1, 9, 0, end, -9, 0)
	for _, row := range []struct {
		name          string
		first, second impl.Track
		want          int64
	}{
		{"only one comes", at10, away, 10},
		{"only one comes, at the time 0", at0, away, 0},
		{"only one comes, at the greatest time", last, away, end - 1},
		{"both come at the same time", at10, at10, 10},
		{"both come at the time 0", at0, trackOf(0, 1, 1, 5, 9, 9), 0},
		{"the first one comes earlier", at10, at20, 10},
		{"one earlier", later(at10, 9), at20, 19},
		{"one later", later(at10, 11), at20, 20},
		{"at the time 0, and later", at0, at20, 0},
		{"at the time 0, and never", at0, later(away, 99), 0},
		{"one after the other one has ended", at10, later(at0, 500), 10},
		{"none comes", away, away, -1},
		{"none comes, the tracks being different", away, stay(impl.Point{X: 6}), -1},
		{"at the greatest times", last, trackOf(end-2, 9, 0, end, -9, 0), end - 2},
	} {
		t.Run(row.name, func(t *testing.T) {
			checkRoomTime(t, zoneCourse(0, 0, 5), 0, row.first, row.second, row.want)
		})
	}
}
