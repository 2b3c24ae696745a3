package tests

import (
	"math/big"
	"testing"

	"loop.example/g00887/impl"
)

// expectedRoundingLine divides with big.Int's Div, which rounds down here, since the length of a
// leg is positive.
func expectedRoundingLine(c impl.Course, k int) impl.Line {
	m := c.Marks[k]
	way := bigWay(expectedStations(c)[k], m.At)
	length := new(big.Int).Sqrt(way.dot(way))
	width := big.NewInt(10 * m.Zone)
	if m.Side == impl.MarkStarboard {
		width.Neg(width)
	}
	quotient := func(x *big.Int) int64 {
		product := bigProduct(x, width)
		return product.Div(product, length).Int64()
	}
	end := impl.Point{X: m.At.X + quotient(way.y), Y: m.At.Y - quotient(way.x)}
	if m.Side == impl.MarkPort {
		return impl.Line{A: m.At, B: end}
	}
	return impl.Line{A: end, B: m.At}
}

func roundingLine(t *testing.T, c impl.Course, k int) impl.Line {
	t.Helper()
	l, code := impl.RoundingLine(c, int64(k))
	if code != impl.ErrNone {
		t.Fatalf("RoundingLine(%v, %d): code %d", c, k, code)
	}
	return l
}

// farFinish is away from the marks of the tests, so that courses with it are valid.
var farFinish = line(-777777, 777, -777777, 778)

// firstLeg is a course whose first leg is a way, which leads to the mark m.
func firstLeg(way impl.Point, m impl.Mark) impl.Course {
	x, y := m.At.X-way.X, m.At.Y-way.Y
	return course(line(x-1, y+2, x+1, y-2), farFinish, m)
}

// secondLeg is a course whose second leg is a way, which leads to the mark m.
func secondLeg(way impl.Point, m impl.Mark) impl.Course {
	before := mark("before", m.At.X-way.X, m.At.Y-way.Y, impl.MarkPort, 1)
	return course(line(55, 5, 66, 6), farFinish, before, m)
}

func plus(p, way impl.Point) impl.Point { return impl.Point{X: p.X + way.X, Y: p.Y + way.Y} }

func minus(p, way impl.Point) impl.Point { return impl.Point{X: p.X - way.X, Y: p.Y - way.Y} }

func TestRoundingWidth(t *testing.T) {
	if impl.RoundingWidth != 10 {
		t.Errorf("RoundingWidth is %d", impl.RoundingWidth)
	}
}

// The ends are given as seen from the mark.
func TestRoundingLine(t *testing.T) {
	for _, c := range []struct {
		name            string
		way             impl.Point
		zone            int64
		port, starboard impl.Point
	}{
		{"north", impl.Point{Y: 50}, 3, impl.Point{X: 30}, impl.Point{X: -30}},
		{"south", impl.Point{Y: -50}, 3, impl.Point{X: -30}, impl.Point{X: 30}},
		{"east", impl.Point{X: 50}, 3, impl.Point{Y: -30}, impl.Point{Y: 30}},
		{"west", impl.Point{X: -50}, 3, impl.Point{Y: 30}, impl.Point{Y: -30}},
		{"north-east", impl.Point{X: 30, Y: 40}, 3, impl.Point{X: 24, Y: -18}, impl.Point{X: -24, Y: 18}},
		{"south-east", impl.Point{X: 30, Y: -40}, 3, impl.Point{X: -24, Y: -18}, impl.Point{X: 24, Y: 18}},
		{"south-west", impl.Point{X: -30, Y: -40}, 3, impl.Point{X: -24, Y: 18}, impl.Point{X: 24, Y: -18}},
		{"north-west", impl.Point{X: -30, Y: 40}, 3, impl.Point{X: 24, Y: 18}, impl.Point{X: -24, Y: -18}},
		{"a length rounded down to 1", impl.Point{X: 1, Y: 1}, 3, impl.Point{X: 30, Y: -30}, impl.Point{X: -30, Y: 30}},
		{"a length rounded down to 2", impl.Point{X: 1, Y: 2}, 3, impl.Point{X: 30, Y: -15}, impl.Point{X: -30, Y: 15}},
		{"a leg of length 1", impl.Point{Y: 1}, 1, impl.Point{X: 10}, impl.Point{X: -10}},
		{"the greatest zone", impl.Point{X: 3, Y: 4}, impl.MaxZone, impl.Point{X: 40000, Y: -30000}, impl.Point{X: -40000, Y: 30000}},
		// The quotients are 70/7 and 20/7, or -70/7 and -20/7, which is rounded down to -3.
		{"rounded, north", impl.Point{X: 2, Y: 7}, 1, impl.Point{X: 10, Y: -2}, impl.Point{X: -10, Y: 3}},
		{"rounded, south", impl.Point{X: -2, Y: -7}, 1, impl.Point{X: -10, Y: 3}, impl.Point{X: 10, Y: -2}},
		{"rounded, east", impl.Point{X: 7, Y: 2}, 1, impl.Point{X: 2, Y: -10}, impl.Point{X: -3, Y: 10}},
		{"rounded, west", impl.Point{X: -7, Y: 2}, 1, impl.Point{X: 2, Y: 10}, impl.Point{X: -3, Y: -10}},
		{"rounded, east and south", impl.Point{X: 7, Y: -2}, 1, impl.Point{X: -3, Y: -10}, impl.Point{X: 2, Y: 10}},
		{"rounded, south and east", impl.Point{X: 2, Y: -7}, 1, impl.Point{X: -10, Y: -2}, impl.Point{X: 10, Y: 3}},
		// The length is rounded down to 4; the quotients are 40/4 and 30/4, or negative.
		{"both rounded", impl.Point{X: 3, Y: 3}, 1, impl.Point{X: 7, Y: -7}, impl.Point{X: -8, Y: 8}},
	} {
		t.Run(c.name, func(t *testing.T) {
			port, starboard := mark("m", 100, -200, impl.MarkPort, c.zone), mark("m", 100, -200, impl.MarkStarboard, c.zone)
			for k, build := range []func(impl.Point, impl.Mark) impl.Course{firstLeg, secondLeg} {
				if l, want := roundingLine(t, build(c.way, port), k), (impl.Line{A: port.At, B: plus(port.At, c.port)}); l != want {
					t.Errorf("to port, the leg %d has the rounding line %v, want %v", k, l, want)
				}
				if l, want := roundingLine(t, build(c.way, starboard), k), (impl.Line{A: plus(starboard.At, c.starboard), B: starboard.At}); l != want {
					t.Errorf("to starboard, the leg %d has the rounding line %v, want %v", k, l, want)
				}
			}
		})
	}
}

// The middles of these lines are not whole.
func TestRoundingLineFromARoundedMiddle(t *testing.T) {
	for _, c := range []struct {
		start impl.Line
		want  impl.Point
	}{
		// The ways to the mark are {0, 5}, {1, 6}, and {-1, 5}, of the lengths 5, 6 and 5.
		{line(0, 0, 1, 1), impl.Point{X: 10, Y: 5}}, {line(-1, -1, 0, 0), impl.Point{X: 10, Y: 4}}, {line(1, 0, 2, 0), impl.Point{X: 10, Y: 7}},
	} {
		l := roundingLine(t, course(c.start, farFinish, mark("m", 0, 5, impl.MarkPort, 1)), 0)
		if l != (impl.Line{A: impl.Point{Y: 5}, B: c.want}) {
			t.Errorf("behind the start %v the rounding line is %v, want the end %v", c.start, l, c.want)
		}
	}
}

func checkRoundingLine(t *testing.T, c impl.Course, k int) {
	t.Helper()
	want, wantCode := expectedRoundingLine(c, k), int64(impl.ErrNone)
	if !impl.IsLine(want) {
		want, wantCode = impl.Line{}, impl.ErrRange
	}
	if l, code := impl.RoundingLine(c, int64(k)); l != want || code != wantCode {
		t.Fatalf("RoundingLine(%v, %d) = %v, %d, want %v, %d", c, k, l, code, want, wantCode)
	}
}

func TestRoundingLinesOfAllCourses(t *testing.T) {
	for _, c := range validCourses() {
		for k := range c.Marks {
			checkRoundingLine(t, c, k)
			m := c.Marks[k]
			m.Side = impl.MarkPort + impl.MarkStarboard - m.Side
			checkRoundingLine(t, withMark(c, k, m), k)
			m.Zone = impl.MaxZone + 1 - m.Zone
			checkRoundingLine(t, withMark(c, k, m), k)
		}
	}
}

// A boat that sails along the leg, through the middle of the rounding line, crosses it forward and
// leaves the mark on its side.
func TestRoundingLinesInAllDirections(t *testing.T) {
	for x := int64(-9); x <= 9; x++ {
		for y := int64(-9); y <= 9; y++ {
			way := impl.Point{X: x, Y: y}
			if way == (impl.Point{}) {
				continue
			}
			for _, side := range []int64{impl.MarkPort, impl.MarkStarboard} {
				m := mark("m", 40, -60, side, 1+(x+y)*(x+y))
				for k, build := range []func(impl.Point, impl.Mark) impl.Course{firstLeg, secondLeg} {
					c := build(way, m)
					checkRoundingLine(t, c, k)
					l := roundingLine(t, c, k)
					from, to := minus(middleOf(l), way), plus(middleOf(l), way)
					if across := wayAcross(t, l, from, to); across != 1 {
						t.Fatalf("the boat from %v to %v crosses the rounding line %v in the way %d", from, to, l, across)
					}
					if left := turnOf(t, from, to, m.At) == 1; left != (side == impl.MarkPort) {
						t.Fatalf("the boat from %v to %v leaves the mark %v on the wrong side", from, to, m)
					}
				}
			}
		}
	}
}

// The ends of the rounding lines are at the greatest coordinates, or 1 beyond them.
func TestRoundingLinesAtTheGreatestCoordinates(t *testing.T) {
	const limit = impl.MaxCoord - 30
	for _, c := range []struct {
		way  impl.Point
		side int64
		at   impl.Point
		out  impl.Point
	}{
		{impl.Point{Y: 50}, impl.MarkPort, impl.Point{X: limit}, impl.Point{X: 1}},
		{impl.Point{Y: 50}, impl.MarkStarboard, impl.Point{X: -limit}, impl.Point{X: -1}},
		{impl.Point{X: 50}, impl.MarkPort, impl.Point{Y: -limit}, impl.Point{Y: -1}},
		{impl.Point{X: 50}, impl.MarkStarboard, impl.Point{Y: limit}, impl.Point{Y: 1}},
		{impl.Point{Y: -50}, impl.MarkPort, impl.Point{X: -limit, Y: 5}, impl.Point{X: -1}},
		{impl.Point{X: -50}, impl.MarkStarboard, impl.Point{X: 5, Y: -limit}, impl.Point{Y: -1}},
	} {
		for k, build := range []func(impl.Point, impl.Mark) impl.Course{firstLeg, secondLeg} {
			in := build(c.way, mark("m", c.at.X, c.at.Y, c.side, 3))
			checkRoundingLine(t, in, k)
			roundingLine(t, in, k)
			at := plus(c.at, c.out)
			out := build(c.way, mark("m", at.X, at.Y, c.side, 3))
			if l, code := impl.RoundingLine(out, int64(k)); code != impl.ErrRange || l != (impl.Line{}) {
				t.Errorf("RoundingLine(%v, %d) = %v, %d, want ErrRange", out, k, l, code)
			}
			// To the other side, the line leads away from the limit.
			inwards := build(c.way, mark("m", at.X, at.Y, impl.MarkPort+impl.MarkStarboard-c.side, 3))
			roundingLine(t, inwards, k)
		}
	}
}

// edgeCourses have one mark each, with the name edge, whose rounding line leaves the greatest
// coordinates.
func edgeCourses() []impl.Course {
	const m = impl.MaxCoord
	edge, inner, far := mark("edge", m-29, 50, impl.MarkPort, 3), mark("inner", 100, 20, impl.MarkPort, 3), mark("far", 0, 0, impl.MarkPort, 1)
	east, middle := line(m-30, 0, m-28, 0), line(-10, 0, 10, 0)
	return []impl.Course{
		course(east, farFinish, edge),
		course(east, farFinish, edge, inner),
		course(middle, farFinish, inner, mark("edge", 200, m, impl.MarkStarboard, impl.MaxZone), far),
		course(middle, farFinish, mark("far", 0, 7, impl.MarkPort, 1), inner, mark("edge", 200, -m, impl.MarkPort, impl.MaxZone)),
	}
}

// The rounding line of another mark is not needed.
func TestRoundingLineBesideOneThatIsNotValid(t *testing.T) {
	for _, c := range edgeCourses() {
		for k, m := range c.Marks {
			checkRoundingLine(t, c, k)
			l, code := impl.RoundingLine(c, int64(k))
			if isOut := code == impl.ErrRange; isOut != (m.Name == "edge") {
				t.Errorf("RoundingLine(%v, %d) = %v, %d", c, k, l, code)
			}
		}
	}
}

func TestRoundingLineErrors(t *testing.T) {
	for _, c := range append(validCourses(), edgeCourses()...) {
		n := int64(len(c.Marks))
		for _, k := range append([]int64{-1, -n, n, n + 1, impl.MaxMarks, 1 << 32, -1 << 32}, extremes...) {
			if l, code := impl.RoundingLine(c, k); code != impl.ErrNotFound || l != (impl.Line{}) {
				t.Fatalf("RoundingLine(%v, %d) = %v, %d, want ErrNotFound", c, k, l, code)
			}
		}
	}
	for _, c := range invalidCourses() {
		for _, k := range append([]int64{-1, 0, 1, int64(len(c.Marks)) - 1, int64(len(c.Marks)), impl.MaxMarks}, extremes...) {
			if l, code := impl.RoundingLine(c, k); code != impl.ErrInvalid || l != (impl.Line{}) {
				t.Fatalf("RoundingLine(%v, %d) = %v, %d, want ErrInvalid", c, k, l, code)
			}
		}
	}
}
