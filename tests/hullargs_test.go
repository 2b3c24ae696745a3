package tests

import (
	"testing"

	"loop.example/g00887/impl"
)

// refusePair checks that all functions of a pair of hulls return ErrInvalid, and nothing beside it,
// in both orders.
func refusePair(t *testing.T, a, b impl.Hull) {
	t.Helper()
	for _, pair := range [][2]impl.Hull{{a, b}, {b, a}} {
		if is, code := impl.ClearAstern(pair[0], pair[1]); is || code != impl.ErrInvalid {
			t.Fatalf("ClearAstern(%v, %v) = %v, %d, want ErrInvalid", pair[0], pair[1], is, code)
		}
		if n, code := impl.OverlapOf(pair[0], pair[1]); n != 0 || code != impl.ErrInvalid {
			t.Fatalf("OverlapOf(%v, %v) = %d, %d, want ErrInvalid", pair[0], pair[1], n, code)
		}
		if n, code := impl.GapBehind(pair[0], pair[1]); n != 0 || code != impl.ErrInvalid {
			t.Fatalf("GapBehind(%v, %v) = %d, %d, want ErrInvalid", pair[0], pair[1], n, code)
		}
	}
	for _, w := range []impl.Wind{toSouth, {X: impl.MaxWind, Y: -impl.MaxWind}, {}, {X: impl.MaxWind + 1}} {
		refuseWindward(t, w, a, b)
	}
	// ErrInvalid comes ahead of ErrRange.
	for _, distance := range append([]int64{0, 10000}, badReaches...) {
		refuseNear(t, a, b, distance, impl.ErrInvalid)
	}
}

func refuseWindward(t *testing.T, w impl.Wind, a, b impl.Hull) {
	t.Helper()
	for _, pair := range [][2]impl.Hull{{a, b}, {b, a}} {
		if n, code := impl.WindwardOf(w, pair[0], pair[1]); n != 0 || code != impl.ErrInvalid {
			t.Fatalf("WindwardOf(%v, %v, %v) = %d, %d, want ErrInvalid", w, pair[0], pair[1], n, code)
		}
	}
}

func TestFunctionsRefuseInvalidHulls(t *testing.T) {
	const m = impl.MaxCoord
	// The last two have no axis: ErrInvalid comes ahead of ErrRange.
	good := []impl.Hull{hullOf(0, 0, 0, 1, 50), hullOf(5, -90, 3, 4, 1000), hullOf(-m, -m, 1, 1, 1000), hullOf(0, 0, 3, 4, 1)}
	for _, bad := range invalidHulls() {
		if p, code := impl.SternOf(bad); p != (impl.Point{}) || code != impl.ErrInvalid {
			t.Fatalf("SternOf(%v) = %v, %d, want ErrInvalid", bad, p, code)
		}
		for _, h := range append(good, bad, impl.Hull{}) {
			refusePair(t, bad, h)
		}
	}
}

func TestHullsInInvalidWinds(t *testing.T) {
	a, b := hullOf(0, 0, 0, 1, 50), hullOf(3, 5, 0, 1, 50)
	for _, bad := range invalidWinds() {
		refuseWindward(t, bad, a, b)
		refuseWindward(t, bad, a, a)
		refuseWindward(t, bad, a, impl.Hull{})
	}
	for _, w := range validWinds() {
		checkWindward(t, w, a, b, expectedWindward(w, a, b))
		checkWindward(t, w, a, a, 0)
	}
}

// Every valid pair has a result in all functions that do not need an axis.
func TestFunctionsAcceptValidHulls(t *testing.T) {
	others := []impl.Hull{hullOf(0, 0, 0, 1, 50), hullOf(impl.MaxCoord, -impl.MaxCoord, maxHeading, -maxHeading, impl.MaxHullLength), hullOf(0, 0, 3, 4, 1)}
	for _, a := range validHulls() {
		for _, b := range others {
			checkRelation(t, a, b)
			checkGapBehind(t, a, b)
			checkGapBehind(t, b, a)
			checkWindward(t, toSouth, a, b, expectedWindward(toSouth, a, b))
			if hasAxis(a) && hasAxis(b) {
				checkNear(t, a, b)
			} else {
				refuseNear(t, a, b, 10, impl.ErrRange)
			}
		}
	}
}
