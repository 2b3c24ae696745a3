package tests

import (
	"fmt"
	"math/big"
	"regexp"
	"slices"
	"strconv"
	"strings"
	"testing"

	"loop.example/g00887/impl"
)

const plainText = "start -10 0 10 0 mark top 30 40 port 15 finish 20 90 40 90"

func pointText(p impl.Point) string { return fmt.Sprintf("%d %d", p.X, p.Y) }

func expectedText(c impl.Course) string {
	text := fmt.Sprintf("start %s %s", pointText(c.Start.A), pointText(c.Start.B))
	for _, m := range c.Marks {
		side := map[int64]string{impl.MarkPort: "port", impl.MarkStarboard: "starboard"}[m.Side]
		text += fmt.Sprintf(" mark %s %s %s %d", m.Name, pointText(m.At), side, m.Zone)
	}
	return text + fmt.Sprintf(" finish %s %s", pointText(c.Finish.A), pointText(c.Finish.B))
}

func TestCourseText(t *testing.T) {
	const m, zone = impl.MaxCoord, impl.MaxZone
	for _, c := range []struct {
		course impl.Course
		want   string
	}{
		{plainCourse(), plainText},
		{course(line(0, 0, -1, 0), line(7, 7, 7, 8), mark("a", -1, -2, impl.MarkStarboard, 1), mark("start", 0, 0, impl.MarkPort, zone)),
			"start 0 0 -1 0 mark a -1 -2 starboard 1 mark start 0 0 port 5000 finish 7 7 7 8"},
		{course(line(-m, m, m, -m), line(m, m, m, m-1), mark("z2345678", -m, -m, impl.MarkPort, 10)),
			"start -1000000 1000000 1000000 -1000000 mark z2345678 -1000000 -1000000 port 10 finish 1000000 1000000 1000000 999999"},
	} {
		if s := impl.CourseText(c.course); s != c.want {
			t.Errorf("CourseText(%v) = %q, want %q", c.course, s, c.want)
		}
	}
	// No course has a text of more than MaxCourseText bytes.
	if s := impl.CourseText(farCourses()[4]); len(s) < 400 || len(s) > impl.MaxCourseText/2 {
		t.Errorf("%q has %d bytes", s, len(s))
	}
}

func TestCoursesAreRecoveredFromTheirTexts(t *testing.T) {
	courses := validCourses()
	for _, name := range goodNames() {
		courses = append(courses, withMark(plainCourse(), 0, mark(name, 30, 40, impl.MarkPort, 15)))
	}
	for _, side := range []int64{impl.MarkPort, impl.MarkStarboard} {
		for _, zone := range []int64{1, 2, 9, 10, 999, 1000, impl.MaxZone - 1, impl.MaxZone} {
			courses = append(courses, withMark(windingCourse(3), 1, mark("zone", 30, 40, side, zone)))
		}
	}
	for _, p := range validPoints() {
		courses = append(courses, course(line(500, 500, 600, 500), line(600, 600, p.X, p.Y), mark("at", 7, 8, impl.MarkPort, 5)))
		courses = append(courses, course(line(p.X, p.Y, 600, 500), line(500, 500, 600, 500), mark("at", p.Y, p.X, impl.MarkPort, 5)))
	}
	for _, c := range courses {
		s := impl.CourseText(c)
		if want := expectedText(c); s != want {
			t.Fatalf("CourseText(%v) = %q, want %q", c, s, want)
		}
		if read, ok := impl.ReadCourse(s); !ok || !sameCourse(read, c) {
			t.Fatalf("ReadCourse(%q) = %v, %v, want %v", s, read, ok, c)
		}
	}
}

func refuseText(t *testing.T, s string) {
	t.Helper()
	if c, ok := impl.ReadCourse(s); ok || !sameCourse(c, impl.Course{}) {
		t.Fatalf("ReadCourse(%q) = %v, %v, want false", s, c, ok)
	}
}

func TestTextsOfInvalidCourses(t *testing.T) {
	for _, c := range invalidCourses() {
		refuseText(t, expectedText(c))
	}
	for _, side := range []string{"left", "PORT", "Port", "starbord", "port,", "0", "1", "2", "", "none"} {
		refuseText(t, strings.Replace(plainText, "port", side, 1))
	}
}

func TestTextsThatAreNoCourse(t *testing.T) {
	for _, s := range []string{
		"", " ", "start", "finish", "mark", "start finish", "start -10 0 10 0", "finish 20 90 40 90", "mark top 30 40 port 15",
		"start -10 0 10 0 finish 20 90 40 90",
		"start -10 0 10 0 mark top 30 40 port 15",
		"mark top 30 40 port 15 finish 20 90 40 90",
		"mark top 30 40 port 15 start -10 0 10 0 finish 20 90 40 90",
		"start -10 0 10 0 finish 20 90 40 90 mark top 30 40 port 15",
		"finish 20 90 40 90 mark top 30 40 port 15 start -10 0 10 0",
		"finish -10 0 10 0 mark top 30 40 port 15 start 20 90 40 90",
		"start -10 0 10 0 mark top 30 40 port 15 start 20 90 40 90",
		"finish -10 0 10 0 mark top 30 40 port 15 finish 20 90 40 90",
		"Start -10 0 10 0 mark top 30 40 port 15 finish 20 90 40 90",
		"start -10 0 10 0 Mark top 30 40 port 15 finish 20 90 40 90",
		"start -10 0 10 0 buoy top 30 40 port 15 finish 20 90 40 90",
		"start -10 0 10 0 mark top 30 40 port 15 end 20 90 40 90",
		"start -10 0 10 0 mark 30 40 top port 15 finish 20 90 40 90",
		"start -10 0 10 0 mark top 30 40 15 port finish 20 90 40 90",
		"start -10 0 10 0 mark top port 30 40 15 finish 20 90 40 90",
		"start -10 0 10 0 mark top 30 40 port 15 mark top 50 40 port 15 finish 20 90 40 90",
		"start -10 0 10 0 mark top 30 40 port 15 mark finish 20 90 40 90",
		"start -10 0 10 0 mark top 30 40 port 15 start -10 0 10 0 5 finish 20 90 40 90",
		plainText + " " + plainText, plainText + plainText, plainText + "\x00", plainText + "\n", "\n" + plainText,
		plainText + strings.Repeat(" ", impl.MaxCourseText-len(plainText)), plainText + strings.Repeat(" ", impl.MaxCourseText+1-len(plainText)),
		strings.Repeat(" ", 9), strings.Repeat(" ", 15), strings.Repeat("0", impl.MaxCourseText), strings.Repeat(" 0", 100000),
		"start -10 0 10 0" + strings.Repeat(" mark top 30 40 port 15", 100000) + " finish 20 90 40 90",
	} {
		refuseText(t, s)
	}
}

// spoiltNumbers are other spellings of a number, and words that are none.
func spoiltNumbers(n int64) []string {
	word := strconv.FormatInt(n, 10)
	words := []string{
		"+" + word, "0" + word, "00" + word, "-0" + word, "--" + word, word + ".", word + ".0", word + "e0", word + "_", "0x" + word, word + "-", word + "m",
		"", "-", "+", "x", "-0", "+0", "00", "1_0", "1e1", "\uff11", "\u0663", "- 5", "99999999999999999999", "-99999999999999999999",
	}
	// Numbers that wrap around to n in 32 and in 64 bits.
	for _, bits := range []uint{32, 64} {
		round := new(big.Int).Lsh(big.NewInt(1), bits)
		words = append(words, round.Add(round, big.NewInt(n)).String())
	}
	if n < 0 {
		words = append(words, "-0"+word[1:], "-+"+word[1:], "- "+word[1:])
	}
	return words
}

func TestNumbersInCourseTexts(t *testing.T) {
	words := strings.Split(plainText, " ")
	for k, word := range words {
		n, err := strconv.ParseInt(word, 10, 64)
		if err != nil {
			continue
		}
		for _, spoilt := range spoiltNumbers(n) {
			other := slices.Clone(words)
			other[k] = spoilt
			refuseText(t, strings.Join(other, " "))
		}
	}
}

func TestWordsOfCourseTexts(t *testing.T) {
	for _, c := range []impl.Course{plainCourse(), windingCourse(1), windingCourse(3), windingCourse(impl.MaxMarks)} {
		words := strings.Split(impl.CourseText(c), " ")
		for k := range words {
			refuseText(t, strings.Join(slices.Delete(slices.Clone(words), k, k+1), " "))
			for _, extra := range []string{"", "0", "5", "mark", "port", "a", words[k]} {
				refuseText(t, strings.Join(slices.Insert(slices.Clone(words), k, extra), " "))
			}
			for other := range k {
				exchanged := slices.Clone(words)
				exchanged[k], exchanged[other] = words[other], words[k]
				checkCourseText(t, strings.Join(exchanged, " "))
			}
		}
		for _, extra := range []string{"", "0", "finish", "mark"} {
			refuseText(t, strings.Join(append(slices.Clone(words), extra), " "))
		}
	}
}

func TestSeparatorsOfCourseTexts(t *testing.T) {
	for k := range len(plainText) {
		if plainText[k] != ' ' {
			continue
		}
		for _, separator := range []string{"", "  ", "\t", "\n", "\r", "\v", "\f", ",", ", ", " \n", ";", "\x00", "\u00a0", "\u2003"} {
			refuseText(t, plainText[:k]+separator+plainText[k+1:])
		}
	}
	for _, blank := range []string{" ", "  ", "\t", "\n", "\r\n", "\u00a0"} {
		refuseText(t, blank+plainText)
		refuseText(t, plainText+blank)
		refuseText(t, strings.ReplaceAll(plainText, " ", blank+" "))
	}
}

// The forms of a text: courseForm has the coordinates of the start in its groups 1 to 4, all
// marks in the group 5, and the coordinates of the finish from the group 11 on.
const (
	numberForm = `(?:0|-?[1-9][0-9]{0,6})`
	lineForm   = ` (` + numberForm + `) (` + numberForm + `) (` + numberForm + `) (` + numberForm + `)`
	markForm   = ` mark ([a-z][a-z0-9]{0,7}) (` + numberForm + `) (` + numberForm + `) (port|starboard) ([1-9][0-9]{0,3})`
)

var (
	courseForm  = regexp.MustCompile(`\Astart` + lineForm + `((?:` + markForm + `){1,8}) finish` + lineForm + `\z`)
	oneMarkForm = regexp.MustCompile(markForm)
)

func number(s string) int64 {
	n, err := strconv.ParseInt(s, 10, 64)
	if err != nil {
		panic(err)
	}
	return n
}

func lineFrom(words []string) impl.Line {
	return line(number(words[0]), number(words[1]), number(words[2]), number(words[3]))
}

// hasRules says whether a course in the right form also keeps the rules for its numbers, names and
// stations.
func hasRules(c impl.Course) bool {
	names := map[string]bool{}
	points := []impl.Point{c.Start.A, c.Start.B, c.Finish.A, c.Finish.B}
	for _, m := range c.Marks {
		names[m.Name] = true
		points = append(points, m.At)
		if m.Zone > 5000 {
			return false
		}
	}
	for _, p := range points {
		if max(p.X, -p.X, p.Y, -p.Y) > 1000000 {
			return false
		}
	}
	stations := expectedStations(c)
	return len(names) == len(c.Marks) && c.Start.A != c.Start.B && c.Finish.A != c.Finish.B && len(slices.Compact(stations)) == len(c.Marks)+2
}

// expectedCourse reads a text by a rule of its own, so that ReadCourse is not compared with CourseText.
func expectedCourse(s string) (impl.Course, bool) {
	found := courseForm.FindStringSubmatch(s)
	if found == nil {
		return impl.Course{}, false
	}
	c := course(lineFrom(found[1:]), lineFrom(found[11:]))
	for _, words := range oneMarkForm.FindAllStringSubmatch(found[5], -1) {
		side := int64(impl.MarkPort)
		if words[4] == "starboard" {
			side = impl.MarkStarboard
		}
		c.Marks = append(c.Marks, mark(words[1], number(words[2]), number(words[3]), side, number(words[5])))
	}
	if !hasRules(c) {
		return impl.Course{}, false
	}
	return c, true
}

func checkCourseText(t *testing.T, s string) {
	t.Helper()
	want, wantOK := expectedCourse(s)
	c, ok := impl.ReadCourse(s)
	if ok != wantOK || !sameCourse(c, want) {
		t.Fatalf("ReadCourse(%q) = %v, %v, want %v, %v", s, c, ok, want, wantOK)
	}
	if ok && impl.CourseText(c) != s {
		t.Fatalf("ReadCourse accepts %q, but the text of %v is %q", s, c, impl.CourseText(c))
	}
}

func TestAcceptedTextsAreTheTextsOfTheirCourses(t *testing.T) {
	for _, s := range []string{
		plainText,
		"start 0 0 1 0 mark a 1 1 port 1 mark b 0 1 starboard 5000 finish 0 0 0 1",
		"start 1000000 -1000000 999999 -999999 mark a2345678 0 0 port 500 finish -1000000 5 -5 1000000",
	} {
		checkCourseText(t, s)
		for i := range len(s) {
			checkCourseText(t, s[:i])
			checkCourseText(t, s[i:])
			checkCourseText(t, s[:i]+s[i+1:])
			for b := range 256 {
				checkCourseText(t, s[:i]+string([]byte{byte(b)})+s[i:])
				checkCourseText(t, s[:i]+string([]byte{byte(b)})+s[i+1:])
			}
		}
	}
}
