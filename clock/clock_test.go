package clock_test

import (
	"math"
	"math/big"
	"testing"

	"tenancy/api"
	"tenancy/clock"
)

const most = math.MaxInt

// spans are lengths of time that may be: small ones, the edges, and some between.
func spans() []int {
	l := []int{}
	for n := range 70 {
		l = append(l, n)
	}
	return append(l, 99, 100, 101, 499, 500, 501, 999, 1000, 1001, 12345, 1<<20, 1<<31, 1<<39+7, api.MaxTime-1, api.MaxTime)
}

func epses() []int {
	return []int{0, 1, 2, 10, 99, api.Eps, 101, 250, 333, 499, 500}
}

// wrongSpans and wrongEpses are what a term and an eps may not be.
func wrongSpans() []int {
	return []int{math.MinInt, math.MinInt + 1, -api.MaxTime, -1000, -60, -1, api.MaxTime + 1, api.MaxTime + 2, 1 << 62, most - 1, most}
}

func wrongEpses() []int {
	return []int{math.MinInt, -1000, -500, -100, -1, 501, 999, 1000, 1001, 2000, most}
}

func TestAddIsTheSum(t *testing.T) {
	for _, x := range [][3]int{
		{0, 0, 0}, {0, 1, 1}, {1, 0, 1}, {5, 7, 12}, {60, 49, 109},
		{api.MaxTime, api.MaxTime, 2 * api.MaxTime},
		{most - 1, 0, most - 1}, {most - 8, 7, most - 1}, {7, most - 8, most - 1},
	} {
		if got := clock.Add(x[0], x[1]); got != x[2] {
			t.Errorf("Add(%d, %d): %d, not %d", x[0], x[1], got, x[2])
		}
	}
}

func TestAddStopsAtTheMost(t *testing.T) {
	for _, x := range [][2]int{
		{most, 0}, {0, most}, {most - 1, 1}, {1, most - 1}, {most - 1, 2}, {most, 1}, {1, most},
		{most, most}, {1 << 62, 1 << 62}, {1 << 62, 1<<62 - 1}, {1 << 62, most},
	} {
		if got := clock.Add(x[0], x[1]); got != most {
			t.Errorf("Add(%d, %d): %d, not the most", x[0], x[1], got)
		}
	}
}

func TestAddOfLessThanNoughtIsNone(t *testing.T) {
	for _, x := range [][2]int{{-1, 5}, {5, -1}, {-1, -1}, {math.MinInt, math.MinInt}, {math.MinInt, most}, {most, -1}} {
		if got := clock.Add(x[0], x[1]); got != 0 {
			t.Errorf("Add(%d, %d): %d, not 0", x[0], x[1], got)
		}
	}
}

func TestShortAndLongExamples(t *testing.T) {
	for _, x := range []struct{ term, eps, short, long int }{
		{60, 100, 49, 74},
		{0, 0, 0, 0}, {0, 500, 0, 0}, {1, 0, 1, 1}, {1, 1, 0, 2}, {60, 0, 60, 60},
		{11, 100, 9, 14}, {9, 100, 7, 11}, {10, 100, 8, 13},
		{3, 500, 1, 9}, {2, 500, 0, 6}, {1000, 500, 333, 3000},
		{api.MaxTime, 0, api.MaxTime, api.MaxTime},
		{api.MaxTime, 500, api.MaxTime / 3, 3 * api.MaxTime},
	} {
		if got := clock.Short(x.term, x.eps); got != x.short {
			t.Errorf("Short(%d, %d): %d, not %d", x.term, x.eps, got, x.short)
		}
		if got := clock.Long(x.term, x.eps); got != x.long {
			t.Errorf("Long(%d, %d): %d, not %d", x.term, x.eps, got, x.long)
		}
	}
}

// times is a*b where no int is too narrow for it.
func times(a, b int) *big.Int {
	return new(big.Int).Mul(big.NewInt(int64(a)), big.NewInt(int64(b)))
}

// TestShortIsRoundedDown: got is the greatest whole number that is not above the share.
func TestShortIsRoundedDown(t *testing.T) {
	for _, term := range spans() {
		for _, eps := range epses() {
			got, want := clock.Short(term, eps), times(term, 1000-eps)
			if times(got, 1000+eps).Cmp(want) > 0 || times(got+1, 1000+eps).Cmp(want) <= 0 {
				t.Errorf("Short(%d, %d): %d", term, eps, got)
			}
		}
	}
}

// TestLongIsRoundedUp: got is the least whole number that is not below the share.
func TestLongIsRoundedUp(t *testing.T) {
	for _, term := range spans() {
		for _, eps := range epses() {
			got, want := clock.Long(term, eps), times(term, 1000+eps)
			if times(got, 1000-eps).Cmp(want) < 0 || times(got-1, 1000-eps).Cmp(want) >= 0 {
				t.Errorf("Long(%d, %d): %d", term, eps, got)
			}
		}
	}
}

func TestShortAndLongOfWhatMayNotBe(t *testing.T) {
	none := func(term, eps int) {
		if s, l := clock.Short(term, eps), clock.Long(term, eps); s != 0 || l != 0 {
			t.Errorf("(%d, %d): Short %d, Long %d, not 0", term, eps, s, l)
		}
	}
	for _, term := range wrongSpans() {
		for _, eps := range append(epses(), wrongEpses()...) {
			none(term, eps)
		}
	}
	for _, eps := range wrongEpses() {
		for _, term := range spans() {
			none(term, eps)
		}
	}
}

func TestFitsExamples(t *testing.T) {
	for _, x := range []struct {
		by, gain, eps int
		want          bool
	}{
		{0, 0, 0, true}, {0, 0, 500, true}, {0, 1, 500, false},
		{10, 8, 100, false}, {10, 9, 100, true}, {10, 10, 100, true}, {10, 11, 100, true}, {10, 12, 100, false},
		{15, 13, 100, false}, {15, 14, 100, true}, {15, 16, 100, true}, {15, 17, 100, false},
		{1, 0, 500, false}, {1, 1, 500, true}, {1, 2, 500, false},
		{5, 4, 0, false}, {5, 5, 0, true}, {5, 6, 0, false},
		{10, 4, 500, false}, {10, 5, 500, true}, {10, 15, 500, true}, {10, 16, 500, false},
		{api.MaxTime, api.MaxTime, 0, true}, {api.MaxTime, api.MaxTime + 1, 0, false},
		{api.MaxTime, api.MaxTime / 2, 500, true}, {api.MaxTime, api.MaxTime/2 - 1, 500, false},
		{api.MaxTime, api.MaxTime / 2 * 3, 500, true}, {api.MaxTime, api.MaxTime/2*3 + 1, 500, false},
	} {
		if got := clock.Fits(x.by, x.gain, x.eps); got != x.want {
			t.Errorf("Fits(%d, %d, %d): %v", x.by, x.gain, x.eps, got)
		}
	}
}

// TestFitsIsTheBounds holds Fits against its words where no int is too narrow, on both sides of either bound, and where gain times 1000 would come round as a number that fits.
func TestFitsIsTheBounds(t *testing.T) {
	for _, by := range spans() {
		for _, eps := range epses() {
			low, high := by*(1000-eps)/1000, by*(1000+eps)/1000
			for _, gain := range []int{low - 1, low, low + 1, by, high, high + 1, 1<<61 + by, 1<<62 + by, most - 1, most} {
				real := times(gain, 1000)
				want := gain >= 0 && real.Cmp(times(by, 1000-eps)) >= 0 && real.Cmp(times(by, 1000+eps)) <= 0
				if got := clock.Fits(by, gain, eps); got != want {
					t.Errorf("Fits(%d, %d, %d): %v", by, gain, eps, got)
				}
			}
		}
	}
}

// TestFitsOfWhatMayNotBe takes gains that would fit, so that it is by or eps for which it is no.
func TestFitsOfWhatMayNotBe(t *testing.T) {
	for _, by := range wrongSpans() {
		for _, eps := range epses() {
			for _, gain := range []int{by, by / 2, 0, 10, -by} {
				if clock.Fits(by, gain, eps) {
					t.Errorf("Fits(%d, %d, %d): yes", by, gain, eps)
				}
			}
		}
	}
	for _, by := range spans() {
		for _, eps := range wrongEpses() {
			if clock.Fits(by, by, eps) {
				t.Errorf("Fits(%d, %d, %d): yes", by, by, eps)
			}
		}
		for _, gain := range []int{-by - 1, -1, -1000, math.MinInt, math.MinInt + by} {
			if clock.Fits(by, gain, 500) {
				t.Errorf("Fits(%d, %d, 500): yes", by, gain)
			}
		}
	}
}

// gains are the least and the greatest gain that fit: the two that are furthest from one another.
func gains(by, eps int) (low, high int, ok bool) {
	low = by * (1000 - eps) / 1000
	for !clock.Fits(by, low, eps) && low <= by {
		low++
	}
	high = by*(1000+eps)/1000 + 1
	for !clock.Fits(by, high, eps) && high >= by {
		high--
	}
	return low, high, clock.Fits(by, low, eps) && clock.Fits(by, high, eps)
}

// TestWhoCountsShortIsDoneAhead: at whatever time the quickest clock has counted the term, the slowest one has counted Short of it; and when the slowest has counted the term, it is not behind whoever counts Long of it by the quickest.
func TestWhoCountsShortIsDoneAhead(t *testing.T) {
	for _, eps := range epses() {
		for by := range 400 {
			low, high, ok := gains(by, eps)
			if !ok {
				t.Errorf("no clock fits %d, %d", by, eps)
			}
			for term := range 120 {
				if high >= term && low < clock.Short(term, eps) {
					t.Errorf("eps %d: by %d one has counted %d, another %d of Short %d", eps, by, term, low, clock.Short(term, eps))
				}
				if high >= clock.Long(term, eps) && low < term {
					t.Errorf("eps %d: by %d one has counted Long %d, another %d of %d", eps, by, clock.Long(term, eps), low, term)
				}
			}
		}
	}
}

// TestShortIsDoneAheadOfManySteps: the clocks run unlike in another way at each step.
func TestShortIsDoneAheadOfManySteps(t *testing.T) {
	for _, steps := range [][]int{{1, 1, 1, 1}, {3, 10, 20}, {7, 11, 13, 15}, {100, 1, 40}} {
		for turns := range 1 << len(steps) {
			mine, other := 0, 0
			for round := range 100 {
				by := steps[round%len(steps)]
				low, high, _ := gains(by, api.Eps)
				if turns>>(round%len(steps))&1 == 1 {
					low, high = high, low
				}
				mine, other = clock.Add(mine, low), clock.Add(other, high)
				if other >= api.Term && mine < clock.Short(api.Term, api.Eps) {
					t.Fatalf("%v, %b: %d is behind %d", steps, turns, mine, other)
				}
			}
		}
	}
}

// TestWhateverIsHandedIn: each call ends, none panics, and it comes to the same again.
func TestWhateverIsHandedIn(t *testing.T) {
	odd := append(append(wrongSpans(), wrongEpses()...), 0, 1, 8, 60, 100, 500, api.MaxTime)
	type answer struct {
		add, short, long int
		fits             bool
	}
	ask := func(a, b, c int) answer {
		return answer{clock.Add(a, b), clock.Short(a, b), clock.Long(a, b), clock.Fits(a, b, c)}
	}
	for _, a := range odd {
		for _, b := range odd {
			for _, c := range odd {
				if one, two := ask(a, b, c), ask(a, b, c); one != two {
					t.Errorf("(%d, %d, %d): %v, then %v", a, b, c, one, two)
				}
			}
		}
	}
}
