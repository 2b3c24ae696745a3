package tests

import (
	"math/rand"
	"slices"
	"testing"

	"loop.example/g00887/impl"
)

// keptBy are incidents with these keepers, which need not be one of the two boats.
func keptBy(keepers ...int64) []impl.Incident {
	list := []impl.Incident{}
	for k, keeper := range keepers {
		list = append(list, impl.Incident{Time: int64(k), First: 0, Second: 1, Keeper: keeper, Reason: impl.ReasonTurning})
	}
	return list
}

func checkCounts(t *testing.T, boats int64, list []impl.Incident, want ...int64) {
	t.Helper()
	if counts, code := impl.KeeperCounts(boats, list); !slices.Equal(counts, want) || code != impl.ErrNone {
		t.Fatalf("KeeperCounts(%d, %v) = %v, %d, want %v", boats, list, counts, code, want)
	}
}

func refuseCounts(t *testing.T, boats int64, list []impl.Incident) {
	t.Helper()
	if counts, code := impl.KeeperCounts(boats, list); len(counts) != 0 || code != impl.ErrRange {
		t.Fatalf("KeeperCounts(%d, %v) = %v, %d, want ErrRange", boats, list, counts, code)
	}
}

func TestKeeperCounts(t *testing.T) {
	for _, row := range []struct {
		boats int64
		list  []impl.Incident
		want  []int64
	}{
		{1, nil, []int64{0}},
		{1, []impl.Incident{}, []int64{0}},
		{1, keptBy(0), []int64{1}},
		{1, keptBy(-1), []int64{0}},
		{1, keptBy(0, -1, 0, 0), []int64{3}},
		{2, nil, []int64{0, 0}},
		{2, keptBy(0), []int64{1, 0}},
		{2, keptBy(1), []int64{0, 1}},
		{2, keptBy(1, 0, 1, -1), []int64{1, 2}},
		{4, keptBy(3, -1, 3), []int64{0, 0, 0, 2}},
		{5, keptBy(-1, -1, -1), []int64{0, 0, 0, 0, 0}},
		{5, keptBy(4, 3, 2, 1, 0, 4, 4, 2), []int64{1, 1, 2, 1, 3}},
		{16, nil, make([]int64, 16)},
		{16, keptBy(15), []int64{0, 0, 0, 0, 0, 0, 0, 0, 0, 0, 0, 0, 0, 0, 0, 1}},
		{16, keptBy(15, 0, 15, 8), []int64{1, 0, 0, 0, 0, 0, 0, 0, 1, 0, 0, 0, 0, 0, 0, 2}},
	} {
		checkCounts(t, row.boats, row.list, row.want...)
	}
}

func TestKeeperCountsOfNumbersOutOfRange(t *testing.T) {
	for _, boats := range append([]int64{0, -1, impl.MaxBoats + 1, -impl.MaxBoats, 2 * impl.MaxBoats, 1 << 32, 1<<32 + 1}, extremes...) {
		refuseCounts(t, boats, nil)
		refuseCounts(t, boats, keptBy(0))
		refuseCounts(t, boats, keptBy(-1))
		refuseCounts(t, boats, keptBy(-2))
		refuseCounts(t, boats, keptBy(boats-1))
	}
	for boats := int64(1); boats <= impl.MaxBoats; boats++ {
		want := make([]int64, boats)
		checkCounts(t, boats, nil, want...)
		checkCounts(t, boats, keptBy(-1), want...)
		want[boats-1] = 1
		checkCounts(t, boats, keptBy(boats-1), want...)
		// Wherever the bad keeper is in the list.
		for _, bad := range append([]int64{-2, boats, boats + 1, -boats - 1, 1 << 32, 1<<32 - 1}, extremes...) {
			refuseCounts(t, boats, keptBy(bad))
			refuseCounts(t, boats, keptBy(bad, 0, -1))
			refuseCounts(t, boats, keptBy(0, bad, boats-1))
			refuseCounts(t, boats, keptBy(0, -1, bad))
			refuseCounts(t, boats, keptBy(bad, bad))
		}
	}
}

// Only the keepers count, even of an incident that has no text. A list may have any length.
func TestKeeperCountsOfOtherFields(t *testing.T) {
	for _, n := range append([]int64{-1, 0, 1, 16, 17, impl.MaxTime + 1}, extremes...) {
		for _, x := range []impl.Incident{{Time: n}, {First: n}, {Second: n}, {Reason: n}, {Time: n, First: n, Second: n, Reason: n}} {
			for keeper := int64(-1); keeper < 3; keeper++ {
				x.Keeper = keeper
				want := []int64{0, 0, 0}
				if keeper >= 0 {
					want[keeper] = 2
				}
				checkCounts(t, 3, []impl.Incident{x, x}, want...)
			}
			for _, keeper := range []int64{-2, 3} {
				x.Keeper = keeper
				refuseCounts(t, 3, []impl.Incident{x})
			}
		}
	}
	checkCounts(t, 2, slices.Repeat(keptBy(1, 0, -1, 1), 50000), 50000, 100000)
}

// Of the incidents of a fleet, each boat has as many as the document tells it to keep clear.
func TestKeeperCountsOfFleets(t *testing.T) {
	random := rand.New(rand.NewSource(68))
	for range 30 {
		tracks := fleetOfWatched(random, 1+random.Intn(impl.MaxBoats))
		list := allIncidents(t, randomWind(random, 5), randomWatch(random), tracks)
		want := make([]int64, len(tracks))
		for boat := range tracks {
			own := slices.DeleteFunc(slices.Clone(list), func(x impl.Incident) bool { return x.Keeper != int64(boat) })
			want[boat] = int64(len(own))
		}
		checkCounts(t, int64(len(tracks)), list, want...)
	}
}
