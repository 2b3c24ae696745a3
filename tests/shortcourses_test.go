package tests

import (
	"slices"
	"testing"

	"loop.example/g00887/impl"
)

func refuseShort(t *testing.T, c impl.Course, k int64, finish impl.Line, want int64) {
	t.Helper()
	if short, code := impl.ShortenCourse(c, k, finish); !sameCourse(short, impl.Course{}) || code != want {
		t.Fatalf("ShortenCourse(%v, %d, %v) = %v, %d, want the code %d", c, k, finish, short, code, want)
	}
}

func TestShortenCourse(t *testing.T) {
	finish := line(-999, 998, 5, -7)
	for _, c := range validCourses() {
		for k := 1; k <= len(c.Marks); k++ {
			want := course(c.Start, finish, c.Marks[:k]...)
			short, code := impl.ShortenCourse(c, int64(k), finish)
			if code != impl.ErrNone || !sameCourse(short, want) || !impl.IsCourse(short) {
				t.Fatalf("ShortenCourse(%v, %d, %v) = %v, %d, want %v", c, k, finish, short, code, want)
			}
		}
		if same, code := impl.ShortenCourse(c, int64(len(c.Marks)), c.Finish); code != impl.ErrNone || !sameCourse(same, c) {
			t.Fatalf("with all of its marks and its finish, %v is %v, %d", c, same, code)
		}
	}
}

func TestShortCoursesKeepTheirStations(t *testing.T) {
	finish := line(-999, 998, 5, -7)
	for _, c := range validCourses() {
		whole, _ := impl.StationsOf(c)
		for k := 1; k <= len(c.Marks); k++ {
			short, _ := impl.ShortenCourse(c, int64(k), finish)
			stations, code := impl.StationsOf(short)
			if code != impl.ErrNone || !slices.Equal(stations, append(slices.Clone(whole[:k+1]), middleOf(finish))) {
				t.Fatalf("of %v, the stations up to %d are %v, %d", c, k, stations, code)
			}
		}
	}
}

func TestShortenCourseErrors(t *testing.T) {
	good := line(-999, 998, 5, -7)
	finishes := append(invalidLines(), good)
	for _, c := range validCourses() {
		n := int64(len(c.Marks))
		for _, k := range append([]int64{-1, -n, 0, n + 1, impl.MaxMarks + 1, 1 + 1<<32, 1 - 1<<32}, extremes...) {
			for _, finish := range finishes {
				refuseShort(t, c, k, finish, impl.ErrRange)
			}
		}
		for k := int64(1); k <= n; k++ {
			for _, finish := range invalidLines() {
				refuseShort(t, c, k, finish, impl.ErrState)
			}
		}
	}
	for _, c := range invalidCourses() {
		for _, k := range append([]int64{-1, 0, 1, 2, int64(len(c.Marks)), impl.MaxMarks + 1}, extremes...) {
			for _, finish := range []impl.Line{good, c.Finish, {}} {
				refuseShort(t, c, k, finish, impl.ErrInvalid)
			}
		}
	}
}

// The finish is valid, but its middle is the last mark that remains.
func TestShortCoursesWithTheFinishAtAMark(t *testing.T) {
	for _, c := range validCourses() {
		for k, m := range c.Marks {
			for _, finish := range []impl.Line{
				{A: m.At, B: impl.Point{X: m.At.X + 1, Y: m.At.Y}},
				{A: impl.Point{X: m.At.X, Y: m.At.Y + 1}, B: m.At},
				{A: impl.Point{X: m.At.X - 9, Y: m.At.Y + 5}, B: impl.Point{X: m.At.X + 10, Y: m.At.Y - 5}},
			} {
				if impl.IsLine(finish) {
					refuseShort(t, c, int64(k+1), finish, impl.ErrState)
				}
			}
			finish := impl.Line{A: m.At, B: impl.Point{X: m.At.X - 1, Y: m.At.Y}}
			if !impl.IsLine(finish) {
				continue
			}
			if short, code := impl.ShortenCourse(c, int64(k+1), finish); code != impl.ErrNone || short.Finish != finish {
				t.Fatalf("ShortenCourse(%v, %d, %v) = %v, %d", c, k+1, finish, short, code)
			}
		}
	}
}

// roomyCourse has the marks of a course in front of spare memory, which it returns whole too.
func roomyCourse(c impl.Course) (impl.Course, []impl.Mark) {
	memory := slices.Clone(c.Marks)
	for k := range int64(2 * impl.MaxMarks) {
		memory = append(memory, mark("spare", k, -k, impl.MarkPort, 77))
	}
	c.Marks = memory[:len(c.Marks)]
	return c, memory
}

// overwriteMarks changes all the memory that a list has, its spare capacity included.
func overwriteMarks(list []impl.Mark) {
	memory := list[:cap(list)]
	for k := range memory {
		memory[k] = mark("gone", -9, -9, -9, -9)
	}
}

func TestShortenCourseSharesNoMemory(t *testing.T) {
	finish := line(-999, 998, 5, -7)
	for _, c := range append(validCourses(), invalidCourses()[:3]...) {
		for k := range int64(len(c.Marks) + 2) {
			roomy, memory := roomyCourse(c)
			before := slices.Clone(memory)
			short, _ := impl.ShortenCourse(roomy, k, finish)
			kept := copyOf(short)
			if !slices.Equal(memory, before) {
				t.Fatalf("ShortenCourse(%v, %d, %v) modifies its argument", c, k, finish)
			}
			overwriteMarks(memory)
			if !sameCourse(short, kept) {
				t.Fatalf("ShortenCourse(%v, %d, %v) returns memory of its argument", c, k, finish)
			}
			copy(memory, before)
			overwriteMarks(short.Marks)
			if !slices.Equal(memory, before) {
				t.Fatalf("ShortenCourse(%v, %d, %v) returns memory of its argument", c, k, finish)
			}
		}
	}
}

func TestFunctionsKeepTheCourse(t *testing.T) {
	for _, c := range append(validCourses(), invalidCourses()[:40]...) {
		roomy, memory := roomyCourse(c)
		before := slices.Clone(memory)
		impl.IsCourse(roomy)
		impl.StationsOf(roomy)
		impl.LegLengths(roomy)
		impl.MarkNamed(roomy, "top")
		impl.CourseText(roomy)
		if !slices.Equal(memory, before) {
			t.Fatalf("the course %v is modified", c)
		}
	}
}

// Results that share memory with one another would change here.
func TestCourseResultsAreNew(t *testing.T) {
	for _, c := range validCourses() {
		stations, _ := impl.StationsOf(c)
		lengths, _ := impl.LegLengths(c)
		read, _ := impl.ReadCourse(impl.CourseText(c))
		again, _ := impl.LegLengths(c)
		clear(stations[:cap(stations)])
		clear(lengths[:cap(lengths)])
		overwriteMarks(read.Marks)
		if newer, _ := impl.LegLengths(c); !slices.Equal(newer, again) {
			t.Fatalf("the legs of %v have changed to %v", c, newer)
		}
		if newer, _ := impl.StationsOf(c); !slices.Equal(newer, expectedStations(c)) {
			t.Fatalf("the stations of %v have changed to %v", c, newer)
		}
		if newer, _ := impl.ReadCourse(impl.CourseText(c)); !sameCourse(newer, c) {
			t.Fatalf("the course %v has changed to %v", c, newer)
		}
	}
}
