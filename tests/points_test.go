package tests

import (
	"math/big"
	"testing"

	"loop.example/g00887/impl"
)

func coordLimits() []int64 {
	return []int64{-impl.MaxCoord, 1 - impl.MaxCoord, -1, 0, 1, impl.MaxCoord - 1, impl.MaxCoord}
}

func invalidPoints() []impl.Point {
	bad := append([]int64{impl.MaxCoord + 1, -impl.MaxCoord - 1}, extremes...)
	points := []impl.Point{}
	for _, b := range bad {
		for _, good := range []int64{-impl.MaxCoord, 0, impl.MaxCoord} {
			points = append(points, impl.Point{X: b, Y: good}, impl.Point{X: good, Y: b})
		}
		points = append(points, impl.Point{X: b, Y: b})
	}
	return points
}

// validPoints are a small grid, which has many collinear and equal triples, and the limits.
func validPoints() []impl.Point {
	points := []impl.Point{}
	for x := int64(-1); x <= 2; x++ {
		for y := int64(-1); y <= 2; y++ {
			points = append(points, impl.Point{X: x, Y: y})
		}
	}
	for _, x := range coordLimits() {
		for _, y := range coordLimits() {
			points = append(points, impl.Point{X: x, Y: y})
		}
	}
	return points
}

func TestIsPoint(t *testing.T) {
	if !impl.IsPoint(impl.Point{}) {
		t.Error("the zero value is valid")
	}
	for _, p := range validPoints() {
		if !impl.IsPoint(p) {
			t.Errorf("%v is valid", p)
		}
	}
	for _, p := range invalidPoints() {
		if impl.IsPoint(p) {
			t.Errorf("%v is not valid", p)
		}
	}
}

func bigDifference(a, b int64) *big.Int {
	return new(big.Int).Sub(big.NewInt(a), big.NewInt(b))
}

func bigProduct(a, b *big.Int) *big.Int { return new(big.Int).Mul(a, b) }

func TestSquareDistance(t *testing.T) {
	corner := impl.Point{X: impl.MaxCoord, Y: impl.MaxCoord}
	opposite := impl.Point{X: -impl.MaxCoord, Y: -impl.MaxCoord}
	for _, c := range []struct {
		p, q impl.Point
		want int64
	}{
		{impl.Point{}, impl.Point{X: 3, Y: 4}, 25},
		{impl.Point{X: -3, Y: 4}, impl.Point{}, 25},
		{impl.Point{X: 1, Y: 2}, impl.Point{X: 1, Y: 2}, 0},
		{impl.Point{X: 1, Y: 2}, impl.Point{X: 2, Y: 1}, 2},
		{corner, opposite, 8000000000000},
	} {
		if d, code := impl.SquareDistance(c.p, c.q); code != impl.ErrNone || d != c.want {
			t.Errorf("SquareDistance(%v, %v) = %d, %d, want %d", c.p, c.q, d, code, c.want)
		}
	}
	for _, p := range validPoints() {
		for _, q := range validPoints() {
			x, y := bigDifference(q.X, p.X), bigDifference(q.Y, p.Y)
			want := new(big.Int).Add(bigProduct(x, x), bigProduct(y, y)).Int64()
			if d, code := impl.SquareDistance(p, q); code != impl.ErrNone || d != want {
				t.Fatalf("SquareDistance(%v, %v) = %d, %d, want %d", p, q, d, code, want)
			}
		}
	}
}

func TestSquareDistanceOfInvalidPoints(t *testing.T) {
	for _, bad := range invalidPoints() {
		for _, q := range []impl.Point{{}, {X: impl.MaxCoord, Y: -impl.MaxCoord}, bad} {
			for _, pair := range [][2]impl.Point{{bad, q}, {q, bad}} {
				if d, code := impl.SquareDistance(pair[0], pair[1]); d != 0 || code != impl.ErrInvalid {
					t.Fatalf("SquareDistance(%v, %v) = %d, %d, want 0 and ErrInvalid", pair[0], pair[1], d, code)
				}
			}
		}
	}
}

func turnOf(t *testing.T, p, q, r impl.Point) int64 {
	t.Helper()
	d, code := impl.TurnOf(p, q, r)
	if code != impl.ErrNone {
		t.Fatalf("TurnOf(%v, %v, %v): code %d", p, q, r, code)
	}
	return d
}

func TestTurnOfSides(t *testing.T) {
	const m = impl.MaxCoord
	for _, c := range []struct {
		p, q, r impl.Point
		want    int64
	}{
		{impl.Point{}, impl.Point{X: 1}, impl.Point{Y: 1}, 1},
		{impl.Point{}, impl.Point{X: 1}, impl.Point{Y: -1}, -1},
		{impl.Point{}, impl.Point{Y: 1}, impl.Point{X: -1}, 1},
		{impl.Point{}, impl.Point{Y: 1}, impl.Point{X: 1}, -1},
		{impl.Point{}, impl.Point{X: 1, Y: 1}, impl.Point{X: 2, Y: 2}, 0},
		{impl.Point{}, impl.Point{X: 1, Y: 1}, impl.Point{X: -5, Y: -5}, 0},
		{impl.Point{X: 4, Y: 4}, impl.Point{X: 4, Y: 4}, impl.Point{X: 9}, 0},
		{impl.Point{}, impl.Point{X: 1}, impl.Point{}, 0},
		{impl.Point{}, impl.Point{X: 1}, impl.Point{X: 1}, 0},
		{impl.Point{X: -m, Y: -m}, impl.Point{X: m, Y: m}, impl.Point{X: -m, Y: m}, 1},
		{impl.Point{X: -m, Y: -m}, impl.Point{X: m, Y: m}, impl.Point{X: m, Y: -m}, -1},
		{impl.Point{X: -m, Y: -m}, impl.Point{X: m, Y: m}, impl.Point{X: m - 1, Y: m}, 1},
		{impl.Point{X: -m, Y: -m}, impl.Point{X: m, Y: m}, impl.Point{X: m, Y: m - 1}, -1},
		{impl.Point{X: -m, Y: -m}, impl.Point{X: m, Y: m - 1}, impl.Point{X: m - 1, Y: m - 2}, -1},
	} {
		if d := turnOf(t, c.p, c.q, c.r); d != c.want {
			t.Errorf("TurnOf(%v, %v, %v) = %d, want %d", c.p, c.q, c.r, d, c.want)
		}
	}
}

func TestTurnOfIsTheSignOfTheArea(t *testing.T) {
	points := validPoints()
	for _, p := range points {
		for _, q := range points {
			for _, r := range points {
				left := (q.X - p.X) * (r.Y - p.Y)
				right := (q.Y - p.Y) * (r.X - p.X)
				want := int64(0)
				if left > right {
					want = 1
				} else if left < right {
					want = -1
				}
				if d := turnOf(t, p, q, r); d != want {
					t.Fatalf("TurnOf(%v, %v, %v) = %d, want %d", p, q, r, d, want)
				}
			}
		}
	}
}

func TestTurnsAreAntisymmetric(t *testing.T) {
	points := validPoints()
	for _, p := range points {
		for _, q := range points {
			for _, r := range points {
				d := turnOf(t, p, q, r)
				if turnOf(t, q, p, r) != -d || turnOf(t, p, r, q) != -d || turnOf(t, r, q, p) != -d {
					t.Fatalf("an exchange in %v, %v, %v does not turn the sign of %d", p, q, r, d)
				}
				if turnOf(t, q, r, p) != d || turnOf(t, r, p, q) != d {
					t.Fatalf("a rotation of %v, %v, %v changes %d", p, q, r, d)
				}
			}
		}
	}
}

func TestTurnOfInvalidPoints(t *testing.T) {
	refuse := func(p, q, r impl.Point) {
		t.Helper()
		if d, code := impl.TurnOf(p, q, r); d != 0 || code != impl.ErrInvalid {
			t.Fatalf("TurnOf(%v, %v, %v) = %d, %d, want 0 and ErrInvalid", p, q, r, d, code)
		}
	}
	x, y := impl.Point{X: 3, Y: -2}, impl.Point{X: -impl.MaxCoord, Y: impl.MaxCoord}
	for _, bad := range invalidPoints() {
		refuse(bad, x, y)
		refuse(x, bad, y)
		refuse(x, y, bad)
		refuse(x, x, bad)
		refuse(bad, bad, x)
		refuse(bad, bad, bad)
	}
}
