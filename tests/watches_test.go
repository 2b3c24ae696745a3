package tests

import (
	"testing"

	"loop.example/g00887/impl"
)

// plainWatch looks at boats that are 30 decimetres long at the multiples of 10.
var plainWatch = impl.Watch{Length: 30, Span: 0, Distance: 10, Step: 10}

// watchRanges are those of the fields of a watch, in their order.
var watchRanges = [4][2]int64{{1, 1000}, {0, 60000}, {0, 10000}, {1, 60000}}

// watchWith returns the watch with another number in its field k.
func watchWith(x impl.Watch, k int, n int64) impl.Watch {
	*[]*int64{&x.Length, &x.Span, &x.Distance, &x.Step}[k] = n
	return x
}

// validWatches have each field at an end of its range or next to it, all together.
func validWatches() []impl.Watch {
	watches := []impl.Watch{{}}
	for k, ends := range watchRanges {
		more := []impl.Watch{}
		for _, x := range watches {
			for _, n := range []int64{ends[0], ends[0] + 1, ends[1] - 1, ends[1]} {
				more = append(more, watchWith(x, k, n))
			}
		}
		watches = more
	}
	return watches
}

// invalidWatches have one fault each, in a watch that is valid without it, but for the first one.
func invalidWatches() []impl.Watch {
	watches := []impl.Watch{{}}
	for k, ends := range watchRanges {
		for _, n := range append([]int64{ends[0] - 1, ends[1] + 1, -ends[1], 2 * ends[1], 1<<32 + ends[0], 1<<32 + ends[1]}, extremes...) {
			watches = append(watches, watchWith(plainWatch, k, n))
			for _, other := range validWatches()[k*17 : k*17+8] {
				watches = append(watches, watchWith(other, k, n))
			}
		}
	}
	return watches
}

func TestWatchConstants(t *testing.T) {
	if impl.MaxChecks != 400 || impl.MaxNear != 10000 || impl.MaxStep != 60000 {
		t.Error(impl.MaxChecks, impl.MaxNear, impl.MaxStep)
	}
	if impl.MaxHullLength != watchRanges[0][1] || impl.MaxSpan != watchRanges[1][1] || impl.MaxNear != watchRanges[2][1] || impl.MaxStep != watchRanges[3][1] {
		t.Error(watchRanges)
	}
}

func TestIsWatch(t *testing.T) {
	for _, row := range []struct {
		length, span, distance, step int64
		want                         bool
	}{
		{50, 100, 20, 500, true}, {0, 0, 0, 0, false}, {1, 0, 0, 1, true}, {1000, 60000, 10000, 60000, true},
		{0, 100, 20, 500, false}, {1, 100, 20, 500, true}, {1000, 100, 20, 500, true}, {1001, 100, 20, 500, false}, {-1, 100, 20, 500, false},
		{50, -1, 20, 500, false}, {50, 0, 20, 500, true}, {50, 60000, 20, 500, true}, {50, 60001, 20, 500, false},
		{50, 100, -1, 500, false}, {50, 100, 0, 500, true}, {50, 100, 10000, 500, true}, {50, 100, 10001, 500, false},
		{50, 100, 20, 0, false}, {50, 100, 20, 1, true}, {50, 100, 20, 60000, true}, {50, 100, 20, 60001, false}, {50, 100, 20, -1, false}, {50, 100, 20, -500, false},
		{1001, 60001, 10001, 60001, false}, {0, -1, -1, 0, false}, {60000, 1000, 60000, 10000, false},
	} {
		x := impl.Watch{Length: row.length, Span: row.span, Distance: row.distance, Step: row.step}
		if is := impl.IsWatch(x); is != row.want {
			t.Errorf("IsWatch(%v) = %v", x, is)
		}
	}
}

func TestAllWatches(t *testing.T) {
	for _, x := range validWatches() {
		if !impl.IsWatch(x) {
			t.Errorf("%v is valid", x)
		}
	}
	for _, x := range invalidWatches() {
		if impl.IsWatch(x) {
			t.Errorf("%v is not valid", x)
		}
	}
}
