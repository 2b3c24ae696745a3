package impl

import (
	"strconv"
	"strings"
)

const (
	ErrNone     = 0
	ErrInvalid  = 1
	ErrRange    = 2
	ErrLimit    = 3
	ErrNotFound = 4
	ErrState    = 5
	ErrSyntax   = 6
)

const (
	MaxTime  = 1000000000
	MaxCoord = 1000000
	MaxBoats = 16
)

// maxNumber bounds the arguments of FloorDiv and RootOf; it is the square of maxRoot.
const (
	maxRoot   = 1000000000
	maxNumber = maxRoot * maxRoot
)

const (
	millisPerSecond = 1000
	millisPerMinute = 60 * millisPerSecond
)

type Point struct {
	X int64
	Y int64
}

func isCoord(n int64) bool { return -MaxCoord <= n && n <= MaxCoord }

func isTime(t int64) bool { return 0 <= t && t <= MaxTime }

func (p Point) isValid() bool { return isCoord(p.X) && isCoord(p.Y) }

// vectorTo returns the way from p to q. Its coordinates may be twice as great as those of a valid
// point.
func (p Point) vectorTo(q Point) Point { return Point{X: q.X - p.X, Y: q.Y - p.Y} }

// cross is positive if the vector q points to the left of the vector p.
func (p Point) cross(q Point) int64 { return p.X*q.Y - p.Y*q.X }

// dot is positive if the vectors p and q point less than a right angle apart.
func (p Point) dot(q Point) int64 { return p.X*q.X + p.Y*q.Y }

func (p Point) squareLength() int64 { return p.dot(p) }

// length returns the length of a vector between valid points, rounded down: its square is in the
// range of RootOf.
func (p Point) length() int64 {
	root, _ := RootOf(p.squareLength())
	return root
}

// resized returns a vector between valid points with another length, or the opposite one if that is
// negative, with both coordinates rounded down. FloorDiv accepts the products: the lengths of hulls
// and of rounding lines are far below its bounds.
func (p Point) resized(length int64) Point {
	east, _ := FloorDiv(p.X*length, p.length())
	north, _ := FloorDiv(p.Y*length, p.length())
	return Point{X: east, Y: north}
}

// IsPoint reports whether p is valid.
func IsPoint(p Point) bool { return p.isValid() }

// FloorDiv returns the greatest integer that is at most a / b, and ErrNone. Errors: ErrRange if b
// is not in 1..1000000000000000000 or a is not in -1000000000000000000..1000000000000000000.
func FloorDiv(a int64, b int64) (int64, int64) {
	if b < 1 || b > maxNumber || a < -maxNumber || a > maxNumber {
		return 0, ErrRange
	}
	quotient := a / b
	// Go's division rounds towards zero, which is up if a is negative.
	if a%b < 0 {
		quotient--
	}
	return quotient, ErrNone
}

// RootOf returns the greatest integer whose square is at most n, and ErrNone. It returns 0 and
// ErrRange if n is not in 0..1000000000000000000.
func RootOf(n int64) (int64, int64) {
	if n < 0 || n > maxNumber {
		return 0, ErrRange
	}
	low, high := int64(0), int64(maxRoot)
search:
	for low < high {
		// The greater one of two middles, so that low = middle makes the range smaller.
		middle := (low + high + 1) / 2
		square := middle * middle
		switch {
		case square == n:
			low = middle
			break search
		case square < n:
			low = middle
		default:
			high = middle - 1
		}
	}
	return low, ErrNone
}

// SquareDistance returns the square of the distance of two points, and ErrNone. It returns 0 and
// ErrInvalid if p or q is not valid.
func SquareDistance(p Point, q Point) (int64, int64) {
	if !p.isValid() || !q.isValid() {
		return 0, ErrInvalid
	}
	return p.vectorTo(q).squareLength(), ErrNone
}

// TurnOf returns 1 if r is to the left of the line from p to q, -1 if it is to the right, 0 if it
// is on it or p and q are equal, and ErrNone. It returns 0 and ErrInvalid if one of them is not
// valid.
func TurnOf(p Point, q Point, r Point) (int64, int64) {
	if !p.isValid() || !q.isValid() || !r.isValid() {
		return 0, ErrInvalid
	}
	return signOf(p.vectorTo(q).cross(p.vectorTo(r))), ErrNone
}

func signOf(n int64) int64 {
	switch {
	case n < 0:
		return -1
	case n > 0:
		return 1
	}
	return 0
}

// TimeText returns the text of a time. It returns the empty string if t is not in 0..MaxTime.
func TimeText(t int64) string {
	if !isTime(t) {
		return ""
	}
	minutes := strconv.FormatInt(t/millisPerMinute, 10)
	seconds := paddedNumber(t%millisPerMinute/millisPerSecond, 2)
	millis := paddedNumber(t%millisPerSecond, 3)
	return minutes + ":" + seconds + "." + millis
}

func paddedNumber(n int64, width int) string {
	digits := strconv.FormatInt(n, 10)
	for len(digits) < width {
		digits = "0" + digits
	}
	return digits
}

// ReadTime returns the time with the text s, and true. It returns 0 and false if there is none.
func ReadTime(s string) (int64, bool) {
	minuteText, rest, _ := strings.Cut(s, ":")
	secondText, milliText, _ := strings.Cut(rest, ".")
	minutes, minutesRead := readDigits(minuteText)
	seconds, secondsRead := readDigits(secondText)
	millis, millisRead := readDigits(milliText)
	if !minutesRead || !secondsRead || !millisRead {
		return 0, false
	}
	t := minutes*millisPerMinute + seconds*millisPerSecond + millis
	// Comparing the texts rejects every other spelling, and the times that have no text.
	if TimeText(t) != s {
		return 0, false
	}
	return t, true
}

// readDigits returns the number that s writes, with any leading zeros. 32 bits are enough for each
// part of a time, and so few that the sum of the parts cannot overflow.
func readDigits(s string) (int64, bool) {
	n, err := strconv.ParseUint(s, 10, 32)
	if err != nil {
		return 0, false
	}
	return int64(n), true
}
