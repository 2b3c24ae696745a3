package tests

import (
	"math/big"
	"math/rand"
	"testing"

	"loop.example/g00887/impl"
)

// aheadBy is the scalar product d of the document.
func aheadBy(a, b impl.Hull) *big.Int {
	return bigWay(a.Bow, b.Bow).dot(bigWay(impl.Point{}, a.Heading))
}

func expectedAstern(a, b impl.Hull) bool {
	d, heading, length := aheadBy(a, b), bigWay(impl.Point{}, a.Heading), big.NewInt(a.Length)
	limit := bigProduct(bigProduct(length, length), heading.dot(heading))
	return d.Sign() < 0 && bigProduct(d, d).Cmp(limit) > 0
}

func clearAstern(t *testing.T, a, b impl.Hull) bool {
	t.Helper()
	is, code := impl.ClearAstern(a, b)
	if code != impl.ErrNone {
		t.Fatalf("ClearAstern(%v, %v): code %d", a, b, code)
	}
	return is
}

func overlapOf(t *testing.T, a, b impl.Hull) int64 {
	t.Helper()
	n, code := impl.OverlapOf(a, b)
	if code != impl.ErrNone {
		t.Fatalf("OverlapOf(%v, %v): code %d", a, b, code)
	}
	return n
}

// expectedRelation is what the document says of a pair if b is clear astern of a, and a of b.
func expectedRelation(bIsAstern, aIsAstern bool) int64 {
	switch {
	case bIsAstern && aIsAstern:
		return impl.HullsApart
	case bIsAstern:
		return impl.HullAstern
	case aIsAstern:
		return impl.HullAhead
	}
	return impl.HullsOverlap
}

// mirroredRelation is what the promise says of a pair that is exchanged.
var mirroredRelation = map[int64]int64{impl.HullsOverlap: impl.HullsOverlap, impl.HullAstern: impl.HullAhead, impl.HullAhead: impl.HullAstern, impl.HullsApart: impl.HullsApart}

// haveOneHeading tells whether two hulls point in the same direction.
func haveOneHeading(a, b impl.Hull) bool {
	first, second := bigWay(impl.Point{}, a.Heading), bigWay(impl.Point{}, b.Heading)
	return first.cross(second).Sign() == 0 && first.dot(second).Sign() > 0
}

// checkRelation checks the promise and both functions on a pair, and returns its relation.
func checkRelation(t *testing.T, a, b impl.Hull) int64 {
	t.Helper()
	bIsAstern, aIsAstern := clearAstern(t, a, b), clearAstern(t, b, a)
	if bIsAstern != expectedAstern(a, b) || aIsAstern != expectedAstern(b, a) {
		t.Fatalf("ClearAstern of %v and %v is %v, and exchanged %v", a, b, bIsAstern, aIsAstern)
	}
	n, back := overlapOf(t, a, b), overlapOf(t, b, a)
	if n != expectedRelation(bIsAstern, aIsAstern) {
		t.Fatalf("OverlapOf(%v, %v) = %d, but ClearAstern is %v, and exchanged %v", a, b, n, bIsAstern, aIsAstern)
	}
	if back != mirroredRelation[n] {
		t.Fatalf("OverlapOf(%v, %v) = %d, but exchanged %d", a, b, n, back)
	}
	if haveOneHeading(a, b) && bIsAstern && aIsAstern {
		t.Fatalf("%v and %v are both clear astern, with one heading", a, b)
	}
	return n
}

func TestClearAstern(t *testing.T) {
	const m = impl.MaxCoord
	north := hullOf(0, 0, 0, 1, 50)
	for _, row := range []struct {
		name string
		a    impl.Hull
		x, y int64 // the bow of b
		want bool
	}{
		{"its own bow", north, 0, 0, false},
		{"at the stern", north, 0, -50, false},
		{"just behind the stern", north, 0, -51, true},
		{"just not at the stern", north, 0, -49, false},
		{"just behind the line of the stern, far to the east", north, m, -51, true},
		{"on the line of the stern, far to the west", north, -m, -50, false},
		{"beside the bow", north, m, 0, false},
		{"ahead by the length", north, 0, 50, false},
		{"ahead by more", north, 0, 51, false},
		{"far ahead", north, -3, m, false},
		{"far behind", north, -3, -m, true},
		{"d is -1, of a length of 1", hullOf(9, 9, 0, 1, 1), 5, 8, false},
		{"d is -2, of a length of 1", hullOf(9, 9, 0, 1, 1), 5, 7, true},
		{"d is 1, of a length of 1", hullOf(9, 9, 0, 1, 1), 5, 10, false},
		{"d is 2, of a length of 1", hullOf(9, 9, 0, 1, 1), 5, 11, false},
		{"d is -250, and 50 times 5", hullOf(0, 0, 3, 4, 50), -30, -40, false},
		{"d is -249", hullOf(0, 0, 3, 4, 50), -31, -39, false},
		{"d is -251", hullOf(0, 0, 3, 4, 50), -29, -41, true},
		{"d is 250", hullOf(0, 0, 3, 4, 50), 30, 40, false},
		{"d is 251", hullOf(0, 0, 3, 4, 50), 29, 41, false},
		{"a heading that is not as long as its root", hullOf(0, 0, 1, 1, 100), -70, -71, false},
		{"a heading that is not as long as its root, farther", hullOf(0, 0, 1, 1, 100), -71, -71, true},
		{"greatest heading and length", hullOf(0, 0, maxHeading, maxHeading, 1000), -707, -707, false},
		{"greatest heading and length, farther", hullOf(0, 0, maxHeading, maxHeading, 1000), -707, -708, true},
		{"greatest heading and length, ahead", hullOf(0, 0, maxHeading, maxHeading, 1000), 708, 707, false},
		{"least d", hullOf(m, m, maxHeading, maxHeading, 1000), -m, -m, true},
		{"least d, of a length of 1", hullOf(m, m, maxHeading, maxHeading, 1), -m, -m, true},
		{"greatest d", hullOf(-m, -m, maxHeading, maxHeading, 1000), m, m, false},
		{"d is 0 between corners", hullOf(-m, m, maxHeading, maxHeading, 1000), m, -m, false},
		{"a heading that is as long as can be along an axis", hullOf(m, 0, maxHeading, 0, 1000), m - 1000, m, false},
		{"the same, just behind", hullOf(m, 0, maxHeading, 0, 1000), m - 1001, m, true},
	} {
		// The heading and the length of b do not count.
		for _, b := range []impl.Hull{hullOf(row.x, row.y, 0, 1, 50), hullOf(row.x, row.y, -maxHeading, 7, 1), hullOf(row.x, row.y, 3, -4, 1000)} {
			if is := clearAstern(t, row.a, b); is != row.want {
				t.Errorf("%s: ClearAstern(%v, %v) = %v", row.name, row.a, b, is)
			}
			checkRelation(t, row.a, b)
		}
	}
}

// wayWithProduct returns a way whose scalar product with h is d. The coordinates of h must not have
// a common divisor. A d that is about a length times that of h gives a way of which both ends can be
// valid points.
func wayWithProduct(h impl.Point, d int64) impl.Point {
	if max(h.X, -h.X) > max(h.Y, -h.Y) {
		way := wayWithProduct(impl.Point{X: h.Y, Y: h.X}, d)
		return impl.Point{X: way.Y, Y: way.X}
	}
	modulus := max(h.Y, -h.Y)
	inverse := new(big.Int).ModInverse(big.NewInt(h.X), big.NewInt(modulus)).Int64()
	x := (d % modulus * inverse) % modulus
	if x > modulus/2 {
		x -= modulus
	} else if x < -modulus/2 {
		x += modulus
	}
	return impl.Point{X: x, Y: (d - x*h.X) / h.Y}
}

// bowsApartBy returns bows with a way between them, the first one at a side of the area.
func bowsApartBy(way impl.Point) (impl.Point, impl.Point) {
	from := impl.Point{X: impl.MaxCoord, Y: impl.MaxCoord}
	if way.X > 0 {
		from.X = -impl.MaxCoord
	}
	if way.Y > 0 {
		from.Y = -impl.MaxCoord
	}
	return from, plus(from, way)
}

// pairWith returns two hulls with a scalar product d, the first one with the heading h.
func pairWith(t *testing.T, h impl.Point, length, d int64) (impl.Hull, impl.Hull) {
	t.Helper()
	from, to := bowsApartBy(wayWithProduct(h, d))
	a, b := impl.Hull{Bow: from, Heading: h, Length: length}, impl.Hull{Bow: to, Heading: h, Length: length}
	if !impl.IsHull(a) || !impl.IsHull(b) || aheadBy(a, b).Cmp(big.NewInt(d)) != 0 {
		t.Fatalf("%v and %v are no pair with the product %d", a, b, d)
	}
	return a, b
}

// The squares of d and of the length of the hull times that of the heading differ by 1 or not at
// all.
func TestSquaresThatDifferByOne(t *testing.T) {
	for _, row := range []struct {
		h          impl.Point
		length, d  int64
		difference int64 // of d * d and the product of the squares
	}{
		{impl.Point{X: 1, Y: 1}, 1, 1, -1}, {impl.Point{X: 1, Y: 1}, 2, 3, 1}, {impl.Point{X: 1, Y: 1}, 5, 7, -1}, {impl.Point{X: 1, Y: 1}, 12, 17, 1},
		{impl.Point{X: 1, Y: -1}, 408, 577, 1}, {impl.Point{X: -1, Y: 1}, 985, 1393, -1}, {impl.Point{X: 1, Y: 2}, 1, 2, -1}, {impl.Point{X: 2, Y: -1}, 4, 9, 1},
		{impl.Point{Y: 1}, 1, 1, 0}, {impl.Point{X: -1}, 1000, 1000, 0}, {impl.Point{X: 3, Y: 4}, 1000, 5000, 0}, {impl.Point{X: -5, Y: 12}, 77, 1001, 0},
		{impl.Point{X: maxHeading, Y: 1}, 1, maxHeading, -1}, {impl.Point{X: -1, Y: -maxHeading}, 1, maxHeading, -1},
		{impl.Point{X: 1934884, Y: 1447867}, 997, 2409378952, -1}, {impl.Point{X: -1993409, Y: 1484467}, 997, 2477965573, -1}, {impl.Point{X: 1790227, Y: -1722916}, 997, 2477169292, -1},
		{impl.Point{X: 1982203, Y: 1602583}, 1000, 2549000001, 1}, {impl.Point{X: -1888927, Y: -16607}, 1000, 1889000001, 1}, {impl.Point{X: 747745, Y: -1980547}, 1000, 2117000001, 1},
	} {
		square := bigProduct(big.NewInt(row.d), big.NewInt(row.d))
		heading := bigWay(impl.Point{}, row.h)
		product := bigProduct(big.NewInt(row.length*row.length), heading.dot(heading))
		if square.Sub(square, product).Cmp(big.NewInt(row.difference)) != 0 {
			t.Fatalf("%v: the squares differ by %v", row, square)
		}
		for d, want := range map[int64]bool{-row.d: row.difference > 0, row.d: false, -row.d - 1: true, 1 - row.d: false, row.d + 1: false} {
			a, b := pairWith(t, row.h, row.length, d)
			if is := clearAstern(t, a, b); is != want {
				t.Errorf("with d = %d, ClearAstern(%v, %v) = %v", d, a, b, is)
			}
			checkRelation(t, a, b)
		}
	}
}

func areCoprime(x, y int64) bool {
	return new(big.Int).GCD(nil, nil, new(big.Int).Abs(big.NewInt(x)), new(big.Int).Abs(big.NewInt(y))).Cmp(big.NewInt(1)) == 0
}

// randomHeading has coordinates without a common divisor, so that d may be any number. One in four
// is as long as a whole number.
func randomHeading(random *rand.Rand, limit int64) impl.Point {
	for {
		h := randomPoint(random, limit)
		if random.Intn(4) == 0 {
			p, q := random.Int63n(1000)+1, random.Int63n(1000)
			h = impl.Point{X: p*p - q*q, Y: 2 * p * q}
		}
		if areCoprime(h.X, h.Y) {
			return h
		}
	}
}

func TestAsternAtTheBoundary(t *testing.T) {
	random := rand.New(rand.NewSource(33))
	for k := range 4000 {
		h := randomHeading(random, []int64{3, 50, 2000, maxHeading}[k%4])
		length := []int64{1, impl.MaxHullLength, 1 + random.Int63n(impl.MaxHullLength)}[k%3]
		heading := bigWay(impl.Point{}, h)
		product := bigProduct(big.NewInt(length*length), heading.dot(heading))
		root := new(big.Int).Sqrt(product).Int64()
		for d, want := range map[int64]bool{-root - 1: true, -root: false, 1 - root: false, -1: false, 0: false, 1: false, root: false, root + 1: false} {
			a, b := pairWith(t, h, length, d)
			if is := clearAstern(t, a, b); is != want {
				t.Fatalf("with d = %d, ClearAstern(%v, %v) = %v", d, a, b, is)
			}
			checkRelation(t, a, b)
		}
	}
}

func TestOverlapOf(t *testing.T) {
	a := hullOf(0, 0, 0, 1, 50)
	for _, row := range []struct {
		name string
		b    impl.Hull
		want int64
	}{
		{"itself", a, impl.HullsOverlap},
		{"beside it", hullOf(20, 0, 0, 1, 50), impl.HullsOverlap},
		{"a little behind", hullOf(9, -20, 0, 1, 50), impl.HullsOverlap},
		{"at the stern", hullOf(9, -50, 0, 1, 50), impl.HullsOverlap},
		{"just astern", hullOf(9, -51, 0, 1, 50), impl.HullAstern},
		{"far astern", hullOf(9, -90, 0, 1, 50), impl.HullAstern},
		{"ahead by the length", hullOf(9, 50, 0, 1, 50), impl.HullsOverlap},
		{"just ahead", hullOf(9, 51, 0, 1, 50), impl.HullAhead},
		{"far ahead", hullOf(9, 90, 0, 1, 50), impl.HullAhead},
		{"ahead, but longer", hullOf(9, 90, 0, 1, 90), impl.HullsOverlap},
		{"ahead, and one shorter than that", hullOf(9, 90, 0, 1, 89), impl.HullAhead},
		{"astern, and long", hullOf(9, -90, 0, 1, 1000), impl.HullAstern},
		{"one heading, but longer", hullOf(9, -90, 0, maxHeading, 50), impl.HullAstern},
		{"one heading, but longer, ahead", hullOf(9, 51, 0, maxHeading, 50), impl.HullAhead},
		{"opposite, beside it", hullOf(9, 0, 0, -1, 50), impl.HullsOverlap},
		{"opposite, at the sterns", hullOf(0, -50, 0, -1, 50), impl.HullsOverlap},
		{"opposite, away from each other", hullOf(0, -51, 0, -1, 50), impl.HullsApart},
		{"opposite, away, and one longer", hullOf(0, -51, 0, -1, 51), impl.HullAstern},
		{"opposite, toward each other", hullOf(0, 90, 0, -1, 50), impl.HullsOverlap},
		{"opposite, away, and shorter", hullOf(0, -50, 0, -1, 49), impl.HullAhead},
		{"at a right angle, apart", hullOf(60, -60, 1, 0, 50), impl.HullsApart},
		{"at a right angle, behind", hullOf(-60, -60, 1, 0, 50), impl.HullAstern},
		{"at a right angle, ahead", hullOf(60, 60, 1, 0, 50), impl.HullAhead},
		{"at a right angle, before each other", hullOf(-60, 60, 1, 0, 50), impl.HullsOverlap},
		{"at a right angle to the west, apart", hullOf(-60, -60, -1, 0, 50), impl.HullsApart},
		{"at a right angle to the west, ahead", hullOf(-60, 60, -1, 0, 50), impl.HullAhead},
		{"at a right angle, at both sterns", hullOf(50, -50, 1, 0, 50), impl.HullsOverlap},
		{"at a right angle, at one stern", hullOf(51, -50, 1, 0, 50), impl.HullAhead},
		{"at a right angle, at the other stern", hullOf(50, -51, 1, 0, 50), impl.HullAstern},
	} {
		if n := checkRelation(t, a, row.b); n != row.want {
			t.Errorf("%s: OverlapOf(%v, %v) = %d, want %d", row.name, a, row.b, n, row.want)
		}
		if n := overlapOf(t, row.b, a); n != mirroredRelation[row.want] {
			t.Errorf("%s, exchanged: OverlapOf(%v, %v) = %d", row.name, row.b, a, n)
		}
	}
}

// The order in which a map is ranged over differs from call to call: the relation must not.
func TestRelationsDoNotChange(t *testing.T) {
	a := hullOf(0, 0, 0, 1, 50)
	for b, want := range map[impl.Hull]int64{
		hullOf(0, -9, 0, 1, 50):   impl.HullsOverlap,
		hullOf(0, -99, 0, 1, 50):  impl.HullAstern,
		hullOf(0, 99, 0, 1, 50):   impl.HullAhead,
		hullOf(0, -99, 0, -1, 50): impl.HullsApart,
	} {
		for range 1000 {
			if n := overlapOf(t, a, b); n != want {
				t.Fatalf("OverlapOf(%v, %v) = %d, want %d", a, b, n, want)
			}
		}
	}
}

func TestRelationsAreMirrored(t *testing.T) {
	counts := map[int64]int{}
	hulls := someHullsOf(1, 40, impl.MaxHullLength)
	for _, a := range hulls {
		for _, b := range hulls {
			counts[checkRelation(t, a, b)]++
		}
		if n := overlapOf(t, a, a); n != impl.HullsOverlap {
			t.Fatalf("OverlapOf(%v, %v) = %d", a, a, n)
		}
	}
	random := rand.New(rand.NewSource(34))
	for k := range 30000 {
		limit, heading := []int64{5, 60, 1500, impl.MaxCoord}[k%4], []int64{1, 6, maxHeading}[k%3]
		length := []int64{8, 80, impl.MaxHullLength}[k%3]
		counts[checkRelation(t, randomHull(random, limit, heading, length), randomHull(random, limit, heading, length))]++
	}
	for relation := range mirroredRelation {
		if counts[relation] < 1000 {
			t.Errorf("relations: %v", counts)
		}
	}
}

// Of two boats with the same heading at most one is clear astern, whatever their lengths.
func TestHullsWithOneHeading(t *testing.T) {
	counts := map[int64]int{}
	random := rand.New(rand.NewSource(35))
	for k := range 20000 {
		limit := []int64{5, 300, impl.MaxCoord}[k%3]
		a, b := randomHull(random, limit, []int64{3, maxHeading}[k%2], impl.MaxHullLength), randomHull(random, limit, 1, []int64{3, impl.MaxHullLength}[k%2])
		b.Heading = a.Heading
		counts[checkRelation(t, a, b)]++
	}
	if counts[impl.HullsApart] != 0 || counts[impl.HullAstern] < 1000 || counts[impl.HullAhead] < 1000 || counts[impl.HullsOverlap] < 1000 {
		t.Errorf("relations: %v", counts)
	}
}
