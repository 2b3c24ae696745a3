package tests

import (
	"math/rand"
	"slices"
	"testing"

	"loop.example/g00887/impl"
)

// expectedChecks goes back from the end, where the program goes on from the beginning. It returns the
// code too.
func expectedChecks(x impl.Watch, a, b impl.Track) ([]int64, int64) {
	times := []int64{}
	end := min(lastTime(a), lastTime(b))
	for time := end - end%x.Step; time >= firstTime(a) && time >= firstTime(b); time -= x.Step {
		times = append(times, time)
		if len(times) > 400 {
			return nil, impl.ErrLimit
		}
	}
	slices.Reverse(times)
	return times, impl.ErrNone
}

// checkCheckTimes checks the check times of two tracks in both orders, and returns them with the code.
func checkCheckTimes(t *testing.T, x impl.Watch, a, b impl.Track) ([]int64, int64) {
	t.Helper()
	want, wantCode := expectedChecks(x, a, b)
	for _, pair := range [][2]impl.Track{{a, b}, {b, a}} {
		if times, code := impl.CheckTimes(x, pair[0], pair[1]); !slices.Equal(times, want) || code != wantCode {
			t.Fatalf("CheckTimes(%v, %v, %v) = %v, %d, want %v, %d", x, pair[0], pair[1], times, code, want, wantCode)
		}
	}
	return want, wantCode
}

// refuseTimes checks that both functions that return times have a code, and nothing beside it, in both
// orders of the tracks.
func refuseTimes(t *testing.T, x impl.Watch, a, b impl.Track, want int64) {
	t.Helper()
	for _, pair := range [][2]impl.Track{{a, b}, {b, a}} {
		if times, code := impl.CheckTimes(x, pair[0], pair[1]); len(times) != 0 || code != want {
			t.Fatalf("CheckTimes(%v, %v, %v) = %v, %d, want the code %d", x, pair[0], pair[1], times, code, want)
		}
		if times, code := impl.NearTimes(x, pair[0], pair[1]); len(times) != 0 || code != want {
			t.Fatalf("NearTimes(%v, %v, %v) = %v, %d, want the code %d", x, pair[0], pair[1], times, code, want)
		}
	}
}

// lasting is a track to the north that lasts from one time to another one.
func lasting(from, to int64) impl.Track { return trackOf(from, 0, 0, to, 0, 90) }

// stepping is the plain watch with another step.
func stepping(step int64) impl.Watch { return watchWith(plainWatch, 3, step) }

// multiples are those of a step from its nth one to its mth one.
func multiples(step, n, m int64) []int64 {
	times := []int64{}
	for k := n; k <= m; k++ {
		times = append(times, k*step)
	}
	return times
}

func TestCheckTimes(t *testing.T) {
	long := lasting(0, impl.MaxTime)
	for _, row := range []struct {
		name string
		step int64
		a, b impl.Track
		want []int64
	}{
		{"from a multiple to another one", 100, lasting(100, 500), lasting(100, 500), []int64{100, 200, 300, 400, 500}},
		{"from just before a multiple", 100, lasting(99, 300), lasting(99, 300), []int64{100, 200, 300}},
		{"from just after a multiple", 100, lasting(101, 300), lasting(101, 300), []int64{200, 300}},
		{"to just before a multiple", 100, lasting(100, 299), lasting(100, 299), []int64{100, 200}},
		{"to just after a multiple", 100, lasting(100, 301), lasting(100, 301), []int64{100, 200, 300}},
		{"one begins at a multiple, the other one before", 100, lasting(200, 450), lasting(3, 450), []int64{200, 300, 400}},
		{"one begins after a multiple, the other one before", 100, lasting(201, 450), lasting(3, 450), []int64{300, 400}},
		{"one ends at a multiple, the other one later", 100, lasting(150, 400), lasting(150, 999), []int64{200, 300, 400}},
		{"one ends before a multiple, the other one later", 100, lasting(150, 399), lasting(150, 999), []int64{200, 300}},
		{"one within the other one", 100, lasting(250, 610), lasting(0, 5000), []int64{300, 400, 500, 600}},
		{"one after the other one, with a common part", 100, lasting(0, 610), lasting(390, 5000), []int64{400, 500, 600}},
		{"together only at a multiple", 100, lasting(0, 300), lasting(300, 600), []int64{300}},
		{"together only at no multiple", 100, lasting(0, 301), lasting(301, 600), nil},
		{"together only just before a multiple", 100, lasting(0, 299), lasting(299, 600), nil},
		{"together between two multiples", 100, lasting(101, 900), lasting(0, 199), nil},
		{"together about one multiple", 100, lasting(101, 900), lasting(0, 200), []int64{200}},
		{"together from a multiple on", 100, lasting(100, 900), lasting(0, 199), []int64{100}},
		{"never together", 100, lasting(0, 300), lasting(301, 600), nil},
		{"never together, with a multiple between", 100, lasting(0, 299), lasting(301, 600), nil},
		{"never together, far from each other", 1, lasting(0, 1), lasting(impl.MaxTime-1, impl.MaxTime), nil},
		{"at the time 0", 100, lasting(0, 99), lasting(0, 70), []int64{0}},
		{"from the time 0 on", 100, lasting(0, 100), lasting(0, 700), []int64{0, 100}},
		{"not at the time 0", 100, lasting(0, 100), lasting(1, 700), []int64{100}},
		{"each millisecond", 1, lasting(7, 11), lasting(5, 99), []int64{7, 8, 9, 10, 11}},
		{"a step that is longer than the tracks", 60000, lasting(59999, 60001), lasting(1, 100000), []int64{60000}},
		{"a step that is longer than the tracks, beside them", 60000, lasting(60001, 119999), long, nil},
		{"the greatest step", 60000, lasting(60000, 240000), long, []int64{60000, 120000, 180000, 240000}},
		{"a step that does not divide the greatest time", 60000, lasting(impl.MaxTime-60000, impl.MaxTime), long, []int64{999960000}},
		{"a step that divides the greatest time", 50000, lasting(impl.MaxTime-50001, impl.MaxTime), long, []int64{impl.MaxTime - 50000, impl.MaxTime}},
		{"an odd step", 7, lasting(12, 35), lasting(0, 99), []int64{14, 21, 28, 35}},
		{"tracks with fixes between", 5, windingTrack(9, 0), windingTrack(6, 1), []int64{5, 10, 15}},
	} {
		t.Run(row.name, func(t *testing.T) {
			if times, code := checkCheckTimes(t, stepping(row.step), row.a, row.b); !slices.Equal(times, row.want) || code != impl.ErrNone {
				t.Errorf("CheckTimes(.., %v, %v) = %v, %d, want %v", row.a, row.b, times, code, row.want)
			}
		})
	}
}

// With MaxChecks check times there is no error, with one more there is.
func TestTheGreatestNumberOfCheckTimes(t *testing.T) {
	const most = impl.MaxChecks
	for _, step := range []int64{1, 2, 3, 10, 777, impl.MaxStep - 1, impl.MaxStep} {
		long := lasting(0, impl.MaxTime)
		for _, n := range []int64{0, 1, 5, 5000} {
			from, to := n*step, (n+most-1)*step
			want := multiples(step, n, n+most-1)
			for _, pair := range [][2]impl.Track{
				{lasting(from, to), lasting(from, to)}, {lasting(from, to), long}, {lasting(0, to), lasting(from, impl.MaxTime)},
				{lasting(from, to+step-1), long}, {lasting(max(from-step+1, 0), to), long}, {lasting(max(from-step+1, 0), to+step-1), long},
			} {
				if times, code := checkCheckTimes(t, stepping(step), pair[0], pair[1]); !slices.Equal(times, want) || code != impl.ErrNone {
					t.Fatalf("with the step %d, CheckTimes(.., %v, %v) has %d times and the code %d", step, pair[0], pair[1], len(times), code)
				}
				if times, code := impl.NearTimes(stepping(step), pair[0], pair[1]); len(times) > most || code != impl.ErrNone {
					t.Fatalf("with the step %d, NearTimes(.., %v, %v) has %d times and the code %d", step, pair[0], pair[1], len(times), code)
				}
			}
			for _, pair := range [][2]impl.Track{
				{lasting(from, to+step), lasting(from, to+step)}, {lasting(from, to+step), long}, {lasting(0, to+step), lasting(from, impl.MaxTime)}, {long, long}, {lasting(from, to+2*step), long},
			} {
				refuseTimes(t, stepping(step), pair[0], pair[1], impl.ErrLimit)
			}
		}
		// One more at the end of all time.
		last := impl.MaxTime / step
		for more, wantCode := range []int64{impl.ErrNone, impl.ErrLimit} {
			from := (last - most + 1 - int64(more)) * step
			if times, code := checkCheckTimes(t, stepping(step), lasting(from, impl.MaxTime), long); code != wantCode || code == impl.ErrNone && len(times) != most {
				t.Fatalf("with the step %d, CheckTimes from %d on has %d times and the code %d", step, from, len(times), code)
			}
		}
	}
}

// It is the number of check times that counts, whether the boats have a hull then, or are near, or not.
func TestTooManyCheckTimesOfAllTracks(t *testing.T) {
	still, away := trackOf(0, 0, 0, impl.MaxChecks, 0, 0), trackOf(0, 90000, 0, impl.MaxChecks, 90000, 90)
	for _, a := range []impl.Track{still, away, lasting(0, impl.MaxChecks)} {
		for _, b := range []impl.Track{still, away, lasting(0, impl.MaxChecks), lasting(0, impl.MaxTime)} {
			refuseTimes(t, stepping(1), a, b, impl.ErrLimit)
			checkCheckTimes(t, stepping(2), a, b)
		}
	}
}

func TestCheckTimesOfAllTracks(t *testing.T) {
	codes := map[int64]int{}
	for k, a := range validTracks() {
		for n, b := range validTracks() {
			for _, step := range []int64{1, int64(1 + (k+n)%9), 60000} {
				_, code := checkCheckTimes(t, stepping(step), a, b)
				codes[code]++
			}
		}
	}
	random := rand.New(rand.NewSource(60))
	for range 4000 {
		limit := []int64{30, 2000, 20000000}[random.Intn(3)]
		from, other := random.Int63n(limit), random.Int63n(limit)
		a, b := lasting(from, from+1+random.Int63n(limit)), lasting(other, other+1+random.Int63n(limit))
		_, code := checkCheckTimes(t, stepping(1+random.Int63n(min(limit, impl.MaxStep))), a, b)
		codes[code]++
	}
	if codes[impl.ErrNone] < 3000 || codes[impl.ErrLimit] < 100 {
		t.Errorf("codes: %v", codes)
	}
}

// Only the step counts for the check times.
func TestCheckTimesInAllWatches(t *testing.T) {
	for _, x := range validWatches() {
		checkCheckTimes(t, x, lasting(50, 449), lasting(0, 700000))
		checkCheckTimes(t, x, lasting(50, 450), lasting(0, 700000))
		checkCheckTimes(t, x, lasting(30000, 240000), lasting(0, 700000))
	}
}
