package tests

import (
	"math"
	"math/big"
	"testing"

	"loop.example/g00887/impl"
)

const tenTo18 = 1000000000000000000

// extremes are numbers that overflow in a comparison, sum or product that is not guarded.
var extremes = []int64{math.MinInt64, math.MinInt64 + 1, math.MaxInt64 - 1, math.MaxInt64}

func TestErrorCodesAndLimits(t *testing.T) {
	codes := []int64{impl.ErrNone, impl.ErrInvalid, impl.ErrRange, impl.ErrLimit, impl.ErrNotFound, impl.ErrState, impl.ErrSyntax}
	for i, code := range codes {
		if code != int64(i) {
			t.Errorf("code %d is %d", i, code)
		}
	}
	if impl.MaxTime != 1000000000 || impl.MaxCoord != 1000000 || impl.MaxBoats != 16 {
		t.Error(impl.MaxTime, impl.MaxCoord, impl.MaxBoats)
	}
}

func checkFloorDiv(t *testing.T, a, b int64) {
	t.Helper()
	q, code := impl.FloorDiv(a, b)
	if code != impl.ErrNone {
		t.Fatalf("FloorDiv(%d, %d): code %d", a, b, code)
	}
	// big.Int's Div is Euclidean, which is the floor if b is positive.
	want := new(big.Int).Div(big.NewInt(a), big.NewInt(b))
	if !want.IsInt64() || q != want.Int64() {
		t.Fatalf("FloorDiv(%d, %d) = %d, want %s", a, b, q, want)
	}
}

func TestFloorDivRoundsDown(t *testing.T) {
	for _, c := range []struct{ a, b, want int64 }{
		{-1, 2, -1}, {1, 2, 0}, {0, 1, 0}, {-2, 2, -1}, {-3, 2, -2}, {7, 7, 1}, {-7, 7, -1},
		{tenTo18, 1, tenTo18}, {-tenTo18, 1, -tenTo18}, {tenTo18, tenTo18, 1}, {-tenTo18, tenTo18, -1},
		{tenTo18 - 1, tenTo18, 0}, {1 - tenTo18, tenTo18, -1}, {-1, tenTo18, -1},
	} {
		if q, code := impl.FloorDiv(c.a, c.b); code != impl.ErrNone || q != c.want {
			t.Errorf("FloorDiv(%d, %d) = %d, %d, want %d", c.a, c.b, q, code, c.want)
		}
	}
	for a := int64(-60); a <= 60; a++ {
		for b := int64(1); b <= 30; b++ {
			checkFloorDiv(t, a, b)
		}
	}
	large := []int64{1, 2, 3, 999999937, 1000000000, tenTo18/2 - 1, tenTo18 / 2, tenTo18 - 1, tenTo18}
	for _, a := range large {
		for _, b := range large {
			checkFloorDiv(t, a, b)
			checkFloorDiv(t, -a, b)
		}
	}
}

func TestFloorDivRange(t *testing.T) {
	refuse := func(a, b int64) {
		t.Helper()
		if q, code := impl.FloorDiv(a, b); q != 0 || code != impl.ErrRange {
			t.Errorf("FloorDiv(%d, %d) = %d, %d, want 0 and ErrRange", a, b, q, code)
		}
	}
	for _, b := range []int64{0, -1, -2, -tenTo18, tenTo18 + 1} {
		for _, a := range []int64{0, 1, -1, 7, tenTo18, -tenTo18} {
			refuse(a, b)
		}
	}
	for _, a := range []int64{tenTo18 + 1, -tenTo18 - 1} {
		for _, b := range []int64{1, 2, tenTo18, 0, -1} {
			refuse(a, b)
		}
	}
	for _, x := range extremes {
		refuse(x, 1)
		refuse(1, x)
		refuse(x, -1)
		refuse(x, x)
	}
}

func TestRootOf(t *testing.T) {
	root := int64(0)
	for n := int64(0); n <= 20000; n++ {
		if (root+1)*(root+1) <= n {
			root++
		}
		if x, code := impl.RootOf(n); code != impl.ErrNone || x != root {
			t.Fatalf("RootOf(%d) = %d, %d, want %d", n, x, code, root)
		}
	}
	check := func(n, want int64) {
		t.Helper()
		if x, code := impl.RootOf(n); code != impl.ErrNone || x != want {
			t.Fatalf("RootOf(%d) = %d, %d, want %d", n, x, code, want)
		}
	}
	check(99, 9)
	check(100, 10)
	check(tenTo18, 1000000000)
	check(tenTo18-1, 999999999)
	// Around each square: floats of 64 bits do not tell these numbers apart near 10^18.
	for k := int64(2); k <= 999999999; k += 1 + k/50 {
		check(k*k-1, k-1)
		check(k*k, k)
		check(k*k+1, k)
		check(k*k+2*k, k)
	}
	for k := int64(999999000); k <= 999999999; k++ {
		check(k*k-1, k-1)
		check(k*k, k)
		check(k*k+2*k, k)
	}
}

func TestRootOfRange(t *testing.T) {
	for _, n := range append([]int64{-1, -100, -tenTo18, tenTo18 + 1, 2 * tenTo18}, extremes...) {
		if x, code := impl.RootOf(n); x != 0 || code != impl.ErrRange {
			t.Errorf("RootOf(%d) = %d, %d, want 0 and ErrRange", n, x, code)
		}
	}
}
