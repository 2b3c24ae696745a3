package tests

import (
	"math/big"
	"slices"
	"strings"
	"testing"

	"loop.example/g00887/impl"
)

func line(ax, ay, bx, by int64) impl.Line { return impl.Line(segment(ax, ay, bx, by)) }

func mark(name string, x, y, side, zone int64) impl.Mark {
	return impl.Mark{Name: name, At: impl.Point{X: x, Y: y}, Side: side, Zone: zone}
}

func course(start, finish impl.Line, marks ...impl.Mark) impl.Course {
	return impl.Course{Start: start, Finish: finish, Marks: marks}
}

// plainCourse has legs of 50 decimetres, one of them between {0, 0} and {30, 40}.
func plainCourse() impl.Course {
	return course(line(-10, 0, 10, 0), line(20, 90, 40, 90), mark("top", 30, 40, impl.MarkPort, 15))
}

// windingCourse has n marks with names of 1 to 8 bytes on both sides, and coordinates of both signs.
func windingCourse(n int) impl.Course {
	c := course(line(-7, 3, 8, -4), line(-30, 700, -1, 701))
	for k := range int64(n) {
		name := "m" + strings.Repeat("z", int(k%7)) + string(rune('0'+k%10))
		if k%8 == 0 {
			name = string(rune('a' + k))
		}
		c.Marks = append(c.Marks, mark(name, k*k*37%101-50, 40+k*77, impl.MarkPort+k%2, 1+k*k*613%impl.MaxZone))
	}
	return c
}

// farCourses reach the limits of the coordinates and zones.
func farCourses() []impl.Course {
	const m, zone = impl.MaxCoord, impl.MaxZone
	courses := []impl.Course{
		course(line(-m, -m, m, m), line(-m, m, m, -m), mark("a", m, m, impl.MarkPort, 1)),
		course(line(-m, -m, 1-m, -m), line(-m, m, m, m-1), mark("a2345678", m, m, impl.MarkStarboard, zone), mark("zzzzzzzz", -m, -m+1, impl.MarkPort, zone)),
		course(line(m, m, m, m-1), line(m-1, m, m, m), mark("z", -m, -m, impl.MarkStarboard, zone-1)),
		course(line(-m, 0, m, 1), line(0, -m, 1, m), mark("x", 1, 0, impl.MarkStarboard, 2)),
	}
	// Its text is about as long as one can be.
	longest := course(line(-m, -m, -m, 1-m), line(-m, 1-m, -m, 2-m))
	for k := range int64(impl.MaxMarks) {
		longest.Marks = append(longest.Marks, mark("abcdefg"+string(rune('0'+k)), -m, 1-m-k%2, impl.MarkStarboard, zone))
	}
	return append(courses, longest)
}

// looseCourses have equal points that are allowed, since they are not consecutive stations.
func looseCourses() []impl.Course {
	start := line(-10, 0, 10, 0)
	there, back := mark("there", 0, 90, impl.MarkPort, 5), mark("back", 0, 20, impl.MarkStarboard, 5)
	return []impl.Course{
		course(start, start, there),
		course(start, line(10, 0, -10, 0), there, back),
		course(start, line(0, 5, 4, 5), there, mark("middle", 0, 0, impl.MarkPort, 5), mark("again", 0, 90, impl.MarkPort, 5)),
		course(start, line(0, 5, 4, 5), mark("left", -10, 0, impl.MarkPort, 5), mark("right", 10, 0, impl.MarkPort, 5), mark("end", 4, 5, impl.MarkPort, 5)),
		course(start, line(-1, 90, 1, 90), there, back),
		// The middle of the start is {-1, -1}, that of the finish is {0, 3}.
		course(line(-1, -1, 0, 0), line(0, 3, 1, 4), mark("near", 0, 0, impl.MarkPort, 5), mark("far", 1, 4, impl.MarkPort, 5)),
	}
}

func validCourses() []impl.Course {
	courses := []impl.Course{plainCourse()}
	for n := 1; n <= impl.MaxMarks; n++ {
		courses = append(courses, windingCourse(n))
	}
	return slices.Concat(courses, farCourses(), looseCourses())
}

func sameCourse(a, b impl.Course) bool {
	return a.Start == b.Start && a.Finish == b.Finish && slices.Equal(a.Marks, b.Marks)
}

func copyOf(c impl.Course) impl.Course {
	c.Marks = slices.Clone(c.Marks)
	return c
}

// withMark returns the course with another mark k.
func withMark(c impl.Course, k int, m impl.Mark) impl.Course {
	c = copyOf(c)
	c.Marks[k] = m
	return c
}

func invalidLines() []impl.Line {
	lines := []impl.Line{}
	for _, s := range invalidSegments() {
		lines = append(lines, impl.Line(s))
	}
	return lines
}

func badNames() []string {
	return []string{
		"", "a23456789", "abcdefghi", strings.Repeat("a", 100), "0", "1top", "9", "A", "Top", "tOp", "toP",
		" ", "to p", " top", "top ", "top\n", "top\x00", "\x00", "to-p", "-", "top_", "top.", "to\xffp", "\xe4", "t\u00f6p", "\uff54op",
	}
}

func goodNames() []string {
	return []string{"a", "z", "a0", "a9", "z0a", "abcdefgh", "a2345678", "mark", "start", "finish", "port", "q1w2"}
}

var badSides = append([]int64{-1, 0, 3, 4, 1 + 1<<32, 2 + 1<<32}, extremes...)

var badZones = append([]int64{-1, 0, impl.MaxZone + 1, 1 - impl.MaxZone, 1 + 1<<32}, extremes...)

// faultyMarks have one fault each, in a mark that is valid without it.
func faultyMarks(good impl.Mark) []impl.Mark {
	marks := []impl.Mark{}
	add := func(spoil func(*impl.Mark)) {
		m := good
		spoil(&m)
		marks = append(marks, m)
	}
	for _, name := range badNames() {
		add(func(m *impl.Mark) { m.Name = name })
	}
	for _, p := range invalidPoints() {
		add(func(m *impl.Mark) { m.At = p })
	}
	for _, side := range badSides {
		add(func(m *impl.Mark) { m.Side = side })
	}
	for _, zone := range badZones {
		add(func(m *impl.Mark) { m.Zone = zone })
	}
	return append(marks, impl.Mark{})
}

// coursesWithEqualNeighbours have two consecutive stations at one point each.
func coursesWithEqualNeighbours() []impl.Course {
	high, low := mark("high", 5, 90, impl.MarkPort, 5), mark("low", -5, 20, impl.MarkStarboard, 5)
	courses := []impl.Course{}
	for _, c := range []struct {
		l      impl.Line
		middle impl.Point
	}{
		{line(-10, 0, 10, 0), impl.Point{}}, {line(10, 0, -10, 0), impl.Point{}},
		{line(0, 0, 1, 1), impl.Point{}}, {line(-1, -1, 0, 0), impl.Point{X: -1, Y: -1}}, {line(0, -1, 1, 0), impl.Point{Y: -1}},
		{line(-5, 3, 2, -6), impl.Point{X: -2, Y: -2}}, {line(2, -6, -5, 3), impl.Point{X: -2, Y: -2}},
		{line(-impl.MaxCoord, -impl.MaxCoord, 1-impl.MaxCoord, -impl.MaxCoord), impl.Point{X: -impl.MaxCoord, Y: -impl.MaxCoord}},
		{line(impl.MaxCoord, impl.MaxCoord, impl.MaxCoord-1, impl.MaxCoord), impl.Point{X: impl.MaxCoord - 1, Y: impl.MaxCoord}},
	} {
		other := line(300, 300, 320, 320)
		at := mark("at", c.middle.X, c.middle.Y, impl.MarkPort, 5)
		courses = append(courses,
			course(c.l, other, at), course(c.l, other, at, high), course(other, c.l, at), course(other, c.l, low, high, at))
	}
	full := windingCourse(impl.MaxMarks)
	for k := 1; k < impl.MaxMarks; k++ {
		m := full.Marks[k]
		m.At = full.Marks[k-1].At
		courses = append(courses, withMark(full, k, m))
	}
	return courses
}

// invalidCourses have one fault each, in a course that is valid without it.
func invalidCourses() []impl.Course {
	courses := append(coursesWithEqualNeighbours(), impl.Course{},
		course(line(-10, 0, 10, 0), line(20, 90, 40, 90)), windingCourse(impl.MaxMarks+1), windingCourse(impl.MaxMarks+2), windingCourse(3*impl.MaxMarks))
	for _, l := range invalidLines() {
		c := plainCourse()
		c.Start = l
		courses = append(courses, c)
		c = plainCourse()
		c.Finish = l
		courses = append(courses, c)
	}
	for _, n := range []int{1, 3, impl.MaxMarks} {
		good := windingCourse(n)
		for k, m := range good.Marks {
			for _, bad := range faultyMarks(m) {
				courses = append(courses, withMark(good, k, bad))
			}
			for other := range k {
				m.Name = good.Marks[other].Name
				courses = append(courses, withMark(good, k, m))
			}
		}
	}
	return courses
}

// middle rounds down with big.Int's Div, which is Euclidean.
func middle(a, b int64) int64 {
	sum := new(big.Int).Add(big.NewInt(a), big.NewInt(b))
	return sum.Div(sum, big.NewInt(2)).Int64()
}

func middleOf(l impl.Line) impl.Point {
	return impl.Point{X: middle(l.A.X, l.B.X), Y: middle(l.A.Y, l.B.Y)}
}

func expectedStations(c impl.Course) []impl.Point {
	stations := []impl.Point{middleOf(c.Start)}
	for _, m := range c.Marks {
		stations = append(stations, m.At)
	}
	return append(stations, middleOf(c.Finish))
}

func TestCourseConstants(t *testing.T) {
	if impl.MarkPort != 1 || impl.MarkStarboard != 2 {
		t.Error(impl.MarkPort, impl.MarkStarboard)
	}
	if impl.MaxMarks != 8 || impl.MaxZone != 5000 || impl.MaxCourseText != 1000 {
		t.Error(impl.MaxMarks, impl.MaxZone, impl.MaxCourseText)
	}
}

func TestIsLine(t *testing.T) {
	if impl.IsLine(impl.Line{}) {
		t.Error("the zero value is not valid")
	}
	for _, s := range append(gridSegments(), farSegments()...) {
		if !impl.IsLine(impl.Line(s)) {
			t.Errorf("%v is valid", s)
		}
	}
	for _, l := range invalidLines() {
		if impl.IsLine(l) {
			t.Errorf("%v is not valid", l)
		}
	}
}

func TestIsCourse(t *testing.T) {
	for _, c := range validCourses() {
		if !impl.IsCourse(c) {
			t.Errorf("%v is valid", c)
		}
	}
	for _, c := range invalidCourses() {
		if impl.IsCourse(c) {
			t.Errorf("%v is not valid", c)
		}
	}
}

func TestNumbersOfMarks(t *testing.T) {
	for n := range 2*impl.MaxMarks + 3 {
		want := 1 <= n && n <= impl.MaxMarks
		if got := impl.IsCourse(windingCourse(n)); got != want {
			t.Errorf("with %d marks: %v, want %v", n, got, want)
		}
	}
}

// isValidWith reports whether a course is valid with a mark instead of its first one, its last one
// and one between.
func isValidWith(t *testing.T, m impl.Mark) bool {
	t.Helper()
	good := windingCourse(impl.MaxMarks)
	for k := range good.Marks {
		good.Marks[k].Name = "other" + string(rune('0'+k))
	}
	valid := impl.IsCourse(withMark(good, 0, m))
	for _, k := range []int{4, impl.MaxMarks - 1} {
		if impl.IsCourse(withMark(good, k, m)) != valid {
			t.Fatalf("the validity of %v depends on its index", m)
		}
	}
	return valid
}

func TestNamesOfMarks(t *testing.T) {
	check := func(name string, want bool) {
		t.Helper()
		if got := isValidWith(t, mark(name, 77, 88, impl.MarkPort, 5)); got != want {
			t.Fatalf("the name %q: %v, want %v", name, got, want)
		}
	}
	for _, name := range goodNames() {
		check(name, true)
	}
	for _, name := range badNames() {
		check(name, false)
	}
	for n := range 20 {
		check(strings.Repeat("q", n), 1 <= n && n <= 8)
	}
	for b := range 256 {
		one := string([]byte{byte(b)})
		letter := 'a' <= b && b <= 'z'
		other := letter || '0' <= b && b <= '9'
		check(one, letter)
		check(one+"top", letter)
		check("t"+one, other)
		check("t"+one+"p", other)
		check("bcdefgh"+one, other)
	}
}

func TestSidesOfMarks(t *testing.T) {
	for _, side := range []int64{impl.MarkPort, impl.MarkStarboard} {
		if !isValidWith(t, mark("side", 77, 88, side, 5)) {
			t.Errorf("the side %d is valid", side)
		}
	}
	for _, side := range badSides {
		if isValidWith(t, mark("side", 77, 88, side, 5)) {
			t.Errorf("the side %d is not valid", side)
		}
	}
}

func TestZonesOfMarks(t *testing.T) {
	for _, zone := range []int64{1, 2, 15, impl.MaxZone - 1, impl.MaxZone} {
		if !isValidWith(t, mark("zone", 77, 88, impl.MarkPort, zone)) {
			t.Errorf("the zone %d is valid", zone)
		}
	}
	for _, zone := range badZones {
		if isValidWith(t, mark("zone", 77, 88, impl.MarkPort, zone)) {
			t.Errorf("the zone %d is not valid", zone)
		}
	}
}

func TestPointsOfMarks(t *testing.T) {
	for _, p := range validPoints() {
		if !impl.IsCourse(course(line(500, 500, 600, 500), line(600, 600, 700, 600), mark("at", p.X, p.Y, impl.MarkPort, 5))) {
			t.Errorf("a mark at %v is valid", p)
		}
	}
}

func TestStationsOf(t *testing.T) {
	const m = impl.MaxCoord
	for _, c := range []struct {
		course impl.Course
		want   []impl.Point
	}{
		{plainCourse(), []impl.Point{{}, {X: 30, Y: 40}, {X: 30, Y: 90}}},
		{course(line(0, 0, 1, 1), line(4, 7, 3, 9), mark("a", 8, 8, impl.MarkPort, 1)), []impl.Point{{}, {X: 8, Y: 8}, {X: 3, Y: 8}}},
		{course(line(0, 0, -1, -1), line(-4, -7, -3, -9), mark("a", 8, 8, impl.MarkPort, 1)), []impl.Point{{X: -1, Y: -1}, {X: 8, Y: 8}, {X: -4, Y: -8}}},
		{course(line(-3, 2, 2, -3), line(-3, 2, 4, -1), mark("a", 8, 8, impl.MarkPort, 1)), []impl.Point{{X: -1, Y: -1}, {X: 8, Y: 8}, {}}},
		{course(line(2, -3, -3, 2), line(-1, 0, 0, -5), mark("a", 8, 8, impl.MarkPort, 1)), []impl.Point{{X: -1, Y: -1}, {X: 8, Y: 8}, {X: -1, Y: -3}}},
		{farCourses()[0], []impl.Point{{}, {X: m, Y: m}, {}}},
		{farCourses()[1], []impl.Point{{X: -m, Y: -m}, {X: m, Y: m}, {X: -m, Y: 1 - m}, {Y: m - 1}}},
		{farCourses()[2], []impl.Point{{X: m, Y: m - 1}, {X: -m, Y: -m}, {X: m - 1, Y: m}}},
	} {
		if stations, code := impl.StationsOf(c.course); code != impl.ErrNone || !slices.Equal(stations, c.want) {
			t.Errorf("StationsOf(%v) = %v, %d, want %v", c.course, stations, code, c.want)
		}
	}
	for _, c := range validCourses() {
		if stations, code := impl.StationsOf(c); code != impl.ErrNone || !slices.Equal(stations, expectedStations(c)) {
			t.Errorf("StationsOf(%v) = %v, %d, want %v", c, stations, code, expectedStations(c))
		}
	}
}

func TestMiddlesOfLines(t *testing.T) {
	for _, s := range append(gridSegments(), farSegments()...) {
		l := impl.Line(s)
		for _, c := range []impl.Course{
			course(l, line(500, 500, 600, 500), mark("a", 77, 88, impl.MarkPort, 5)),
			course(line(500, 500, 600, 500), l, mark("a", 77, 88, impl.MarkPort, 5)),
		} {
			stations, code := impl.StationsOf(c)
			if code != impl.ErrNone || !slices.Equal(stations, expectedStations(c)) {
				t.Fatalf("StationsOf(%v) = %v, %d, want %v", c, stations, code, expectedStations(c))
			}
		}
	}
}

// isLength says whether n is the greatest integer whose square is at most that of the distance.
func isLength(n int64, p, q impl.Point) bool {
	way := bigWay(p, q)
	square := way.dot(way)
	reaches := func(length int64) bool {
		return bigProduct(big.NewInt(length), big.NewInt(length)).Cmp(square) <= 0
	}
	return n >= 0 && reaches(n) && !reaches(n+1)
}

func TestLegLengths(t *testing.T) {
	const m = impl.MaxCoord
	start := line(-1, 0, 1, 0)
	for _, c := range []struct {
		course impl.Course
		want   []int64
	}{
		{plainCourse(), []int64{50, 50}},
		{course(start, line(3, 5, 3, 7), mark("a", 3, 4, impl.MarkPort, 1)), []int64{5, 2}},
		{course(start, line(1, 2, 3, 2), mark("a", 1, 1, impl.MarkPort, 1)), []int64{1, 1}},
		{course(start, line(-7, -7, -6, -7), mark("a", -1, -2, impl.MarkPort, 1), mark("b", -4, -5, impl.MarkPort, 1)), []int64{2, 4, 3}},
		{course(line(-m, -m, 1-m, -m), line(-m, m, 1-m, m), mark("a", m, m, impl.MarkPort, 1)), []int64{2828427, 2000000}},
		{course(line(m, -m, m, 1-m), line(m-1, -m, m, -m), mark("a", -m, m, impl.MarkPort, 1), mark("b", -m, m-1, impl.MarkPort, 1)), []int64{2828427, 1, 2828425}},
	} {
		if lengths, code := impl.LegLengths(c.course); code != impl.ErrNone || !slices.Equal(lengths, c.want) {
			t.Errorf("LegLengths(%v) = %v, %d, want %v", c.course, lengths, code, c.want)
		}
	}
}

func TestStationsAreTheEndsOfLegs(t *testing.T) {
	for _, c := range validCourses() {
		stations, code := impl.StationsOf(c)
		if code != impl.ErrNone || len(stations) != len(c.Marks)+2 {
			t.Fatalf("StationsOf(%v) = %v, %d", c, stations, code)
		}
		lengths, code := impl.LegLengths(c)
		if code != impl.ErrNone || len(lengths) != len(stations)-1 {
			t.Fatalf("LegLengths(%v) = %v, %d", c, lengths, code)
		}
		for k, n := range lengths {
			if !isLength(n, stations[k], stations[k+1]) || n == 0 {
				t.Fatalf("the leg %d of %v has the length %d", k, c, n)
			}
		}
	}
}

func beforeLine(t *testing.T, l impl.Line, p impl.Point) int64 {
	t.Helper()
	n, code := impl.BeforeLine(l, p)
	if code != impl.ErrNone {
		t.Fatalf("BeforeLine(%v, %v): code %d", l, p, code)
	}
	return n
}

func TestBeforeLine(t *testing.T) {
	const m = impl.MaxCoord
	for _, c := range []struct {
		l    impl.Line
		p    impl.Point
		want int64
	}{
		{line(0, 0, 10, 0), impl.Point{X: 5, Y: -1}, -1}, {line(0, 0, 10, 0), impl.Point{X: 5, Y: 1}, 1}, {line(0, 0, 10, 0), impl.Point{X: 5}, 0},
		{line(10, 0, 0, 0), impl.Point{X: 5, Y: -1}, 1}, {line(10, 0, 0, 0), impl.Point{X: 5, Y: 1}, -1},
		{line(0, 0, 10, 0), impl.Point{}, 0}, {line(0, 0, 10, 0), impl.Point{X: 10}, 0},
		{line(0, 0, 10, 0), impl.Point{X: -3}, 0}, {line(0, 0, 10, 0), impl.Point{X: 13}, 0},
		{line(0, 0, 10, 0), impl.Point{X: 500, Y: -1}, -1}, {line(0, 0, 10, 0), impl.Point{X: -500, Y: 1}, 1},
		{line(-m, -m, m, m), impl.Point{X: m, Y: m - 1}, -1}, {line(-m, -m, m, m), impl.Point{X: m - 1, Y: m}, 1},
		{line(-m, -m, m, m), impl.Point{X: m, Y: -m}, -1}, {line(-m, -m, m, m-1), impl.Point{X: m - 1, Y: m - 2}, -1},
	} {
		if n := beforeLine(t, c.l, c.p); n != c.want {
			t.Errorf("BeforeLine(%v, %v) = %d, want %d", c.l, c.p, n, c.want)
		}
	}
	for _, s := range append(gridSegments(), farSegments()...) {
		for _, p := range validPoints() {
			n, want := beforeLine(t, impl.Line(s), p), int64(bigWay(s.A, s.B).cross(bigWay(s.A, p)).Sign())
			if n != want || turnOf(t, s.A, s.B, p) != n {
				t.Fatalf("BeforeLine(%v, %v) = %d, want %d", s, p, n, want)
			}
			if other := beforeLine(t, impl.Line(reversed(s)), p); other != -n {
				t.Fatalf("BeforeLine(%v, %v) = %d, but %d if the ends are exchanged", s, p, n, other)
			}
		}
	}
}

func TestBeforeLineErrors(t *testing.T) {
	refuse := func(l impl.Line, p impl.Point) {
		t.Helper()
		if n, code := impl.BeforeLine(l, p); n != 0 || code != impl.ErrInvalid {
			t.Fatalf("BeforeLine(%v, %v) = %d, %d, want 0 and ErrInvalid", l, p, n, code)
		}
	}
	for _, l := range invalidLines() {
		for _, p := range []impl.Point{{}, {X: 5, Y: -1}, {X: -impl.MaxCoord, Y: impl.MaxCoord}, l.A, {X: impl.MaxCoord + 1}} {
			refuse(l, p)
		}
	}
	for _, p := range invalidPoints() {
		refuse(line(0, 0, 10, 0), p)
		refuse(line(10, 0, 0, 7), p)
	}
}

func TestMarkNamed(t *testing.T) {
	for _, c := range validCourses() {
		for k, m := range c.Marks {
			if n, code := impl.MarkNamed(c, m.Name); code != impl.ErrNone || n != int64(k) {
				t.Fatalf("MarkNamed(%v, %q) = %d, %d, want %d", c, m.Name, n, code, k)
			}
		}
		names := append(badNames(), "none", "star", c.Marks[0].Name+"x", c.Marks[0].Name[1:]+"_", strings.ToUpper(c.Marks[0].Name))
		for _, name := range names {
			if n, code := impl.MarkNamed(c, name); n != 0 || code != impl.ErrNotFound {
				t.Fatalf("MarkNamed(%v, %q) = %d, %d, want ErrNotFound", c, name, n, code)
			}
		}
	}
}

func TestFunctionsRefuseInvalidCourses(t *testing.T) {
	for _, c := range invalidCourses() {
		if stations, code := impl.StationsOf(c); len(stations) != 0 || code != impl.ErrInvalid {
			t.Fatalf("StationsOf(%v) = %v, %d, want ErrInvalid", c, stations, code)
		}
		if lengths, code := impl.LegLengths(c); len(lengths) != 0 || code != impl.ErrInvalid {
			t.Fatalf("LegLengths(%v) = %v, %d, want ErrInvalid", c, lengths, code)
		}
		names := []string{"", "none", "top", "a"}
		for _, m := range c.Marks {
			names = append(names, m.Name)
		}
		for _, name := range names {
			if n, code := impl.MarkNamed(c, name); n != 0 || code != impl.ErrInvalid {
				t.Fatalf("MarkNamed(%v, %q) = %d, %d, want ErrInvalid", c, name, n, code)
			}
		}
		if s := impl.CourseText(c); s != "" {
			t.Fatalf("CourseText(%v) = %q, want none", c, s)
		}
	}
}
