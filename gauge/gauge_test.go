package gauge_test

import (
	"math"
	"math/big"
	"slices"
	"testing"

	"tenancy/gauge"
)

var (
	nan   = math.NaN()
	inf   = math.Inf(1)
	below = math.Inf(-1)
	minus = math.Copysign(0, -1)
)

const (
	tiny   = math.SmallestNonzeroFloat64
	normal = 0x1p-1022 // the least that has all its bits
	most   = math.MaxFloat64
)

// rising is floats as Order has them, each ahead of the next.
func rising() []float64 {
	return []float64{
		below, -most, math.Nextafter(-most, 0), -1 << 53, -3, -2, math.Nextafter(-1, -2), -1, -0.5, -normal, math.Nextafter(-normal, 0), -2 * tiny, -tiny,
		minus, 0,
		tiny, 2 * tiny, math.Nextafter(normal, 0), normal, 0.5, 1, math.Nextafter(1, 2), 2, 3, 1 << 53, math.Nextafter(most, 0), most, inf,
		nan,
	}
}

// nans are what is no number, of several bits: quiet and not, of either sign.
func nans() []float64 {
	l := []float64{nan}
	for _, b := range []uint64{0x7ff0000000000001, 0x7ff4000000000000, 0x7ff8000000000000, 0x7fffffffffffffff, 0xfff0000000000001, 0xfff8000000000000, 0xffffffffffffffff} {
		l = append(l, math.Float64frombits(b))
	}
	return l
}

// same tells -0 from +0; all that are no number are one.
func same(a, b float64) bool {
	return math.Float64bits(a) == math.Float64bits(b) || math.IsNaN(a) && math.IsNaN(b)
}

func sameAll(a, b []float64) bool { return slices.EqualFunc(a, b, same) }

// dice is a row of bits by a rule that mixes them, the same each time (splitmix64).
type dice uint64

func (d *dice) bits() uint64 {
	*d += 0x9e3779b97f4a7c15
	x := uint64(*d)
	x = (x ^ x>>30) * 0xbf58476d1ce4e5b9
	x = (x ^ x>>27) * 0x94d049bb133111eb
	return x ^ x>>31
}

// below is a number from 0 to n - 1.
func (d *dice) below(n int) int { return int(d.bits() % uint64(n)) }

// lists are lists of measures: of none, of each odd one alone, of two, and longer ones that dice are thrown for.
func lists() [][]float64 {
	all := append(rising(), nans()...)
	l := [][]float64{nil, {}, rising(), nans()}
	for _, a := range all {
		l = append(l, []float64{a})
		for _, b := range all {
			l = append(l, []float64{a, b})
		}
	}
	throw := dice(2)
	for range 2000 {
		var x []float64
		for range 1 + throw.below(12) {
			x = append(x, all[throw.below(len(all))])
		}
		l = append(l, x)
	}
	return l
}

func TestOrderExamples(t *testing.T) {
	for _, x := range []struct {
		a, b float64
		want int
	}{
		{minus, 0, -1}, {0, minus, 1}, {0, 0, 0}, {minus, minus, 0},
		{1, 2, -1}, {2, 1, 1}, {2, 2, 0}, {-1, -2, 1}, {-2, -1, -1}, {-1, 1, -1},
		{inf, nan, -1}, {nan, inf, 1}, {nan, nan, 0}, {below, nan, -1}, {nan, below, 1}, {0, nan, -1}, {nan, minus, 1},
		{inf, inf, 0}, {below, below, 0}, {below, inf, -1}, {most, inf, -1}, {below, -most, -1},
		{minus, tiny, -1}, {0, -tiny, 1}, {minus, -tiny, 1}, {-tiny, 0, -1},
	} {
		if got := gauge.Order(x.a, x.b); got != x.want {
			t.Errorf("Order(%v, %v): %d, not %d", x.a, x.b, got, x.want)
		}
	}
}

func TestOrderIsBySize(t *testing.T) {
	l := rising()
	for i, a := range l {
		for k, b := range l {
			want := min(max(i-k, -1), 1)
			if got := gauge.Order(a, b); got != want {
				t.Errorf("Order(%v, %v): %d, not %d", a, b, got, want)
			}
		}
	}
}

func TestOrderHasAllThatAreNoNumberAsOne(t *testing.T) {
	for _, a := range nans() {
		for _, b := range nans() {
			if got := gauge.Order(a, b); got != 0 {
				t.Errorf("Order(%x, %x): %d, not 0", math.Float64bits(a), math.Float64bits(b), got)
			}
		}
		for _, b := range rising()[:len(rising())-1] {
			if one, two := gauge.Order(a, b), gauge.Order(b, a); one != 1 || two != -1 {
				t.Errorf("%x and %v: %d, %d", math.Float64bits(a), b, one, two)
			}
		}
	}
}

// TestOrderIsAnOrderOfAll: each is like itself, of any two one is ahead or they are alike, and what is ahead of what is ahead is ahead.
func TestOrderIsAnOrderOfAll(t *testing.T) {
	l := append(rising(), nans()...)
	throw := dice(1)
	for range 40 {
		l = append(l, math.Float64frombits(throw.bits()))
	}
	for _, a := range l {
		for _, b := range l {
			ab := gauge.Order(a, b)
			if ab != -gauge.Order(b, a) || (ab == 0) != same(a, b) || ab < -1 || ab > 1 {
				t.Errorf("Order(%v, %v): %d, turned %d", a, b, ab, gauge.Order(b, a))
			}
			for _, c := range l {
				if ab <= 0 && gauge.Order(b, c) <= 0 && gauge.Order(a, c) > 0 {
					t.Errorf("%v, %v, %v: no order", a, b, c)
				}
			}
		}
	}
}

// TestOrderAnswersForAnyBits holds Order against the sizes as they are where no float is too coarse.
func TestOrderAnswersForAnyBits(t *testing.T) {
	throw := dice(3)
	for range 20000 {
		a := math.Float64frombits(throw.bits())
		b := math.Float64frombits(math.Float64bits(a) + uint64(throw.below(3)) - 1)
		if throw.below(2) == 0 {
			b = math.Float64frombits(throw.bits())
		}
		if math.IsNaN(a) || math.IsNaN(b) || a == 0 && b == 0 {
			continue
		}
		if got, want := gauge.Order(a, b), big.NewFloat(a).Cmp(big.NewFloat(b)); got != want {
			t.Errorf("Order(%v, %v): %d, not %d", a, b, got, want)
		}
	}
}

func TestLeastAndMostExamples(t *testing.T) {
	for _, x := range []struct {
		l           []float64
		least, most float64
	}{
		{nil, inf, below}, {[]float64{}, inf, below},
		{[]float64{7}, 7, 7}, {[]float64{3, 1, 2}, 1, 3}, {[]float64{1, 2, 3}, 1, 3}, {[]float64{3, 2, 1}, 1, 3}, {[]float64{-3, -1, -2}, -3, -1},
		{[]float64{0, minus}, minus, 0}, {[]float64{minus, 0}, minus, 0}, {[]float64{minus}, minus, minus}, {[]float64{0, 0}, 0, 0},
		{[]float64{nan}, nan, nan}, {[]float64{nan, 5}, 5, nan}, {[]float64{5, nan}, 5, nan}, {[]float64{nan, inf}, inf, nan}, {[]float64{inf, nan, below}, below, nan},
		{[]float64{inf}, inf, inf}, {[]float64{below}, below, below}, {[]float64{below, 4, inf}, below, inf}, {[]float64{inf, inf}, inf, inf},
		{[]float64{most, -most}, -most, most}, {[]float64{tiny, 0}, 0, tiny}, {[]float64{-tiny, minus}, -tiny, minus},
	} {
		if got := gauge.Least(x.l); !same(got, x.least) {
			t.Errorf("Least(%v): %v, not %v", x.l, got, x.least)
		}
		if got := gauge.Most(x.l); !same(got, x.most) {
			t.Errorf("Most(%v): %v, not %v", x.l, got, x.most)
		}
	}
}

// TestLeastAndMostAreByOrder: they are in the list, and nothing in it is ahead of Least or behind Most.
func TestLeastAndMostAreByOrder(t *testing.T) {
	for _, l := range lists() {
		if len(l) == 0 {
			continue
		}
		least, most := gauge.Least(l), gauge.Most(l)
		has := func(x float64) bool { return slices.ContainsFunc(l, func(y float64) bool { return same(x, y) }) }
		if !has(least) || !has(most) {
			t.Errorf("%v: %v or %v is not in it", l, least, most)
		}
		for _, x := range l {
			if gauge.Order(x, least) < 0 || gauge.Order(x, most) > 0 {
				t.Errorf("%v: Least %v, Most %v", l, least, most)
			}
		}
	}
}

func TestSumAndMeanExamples(t *testing.T) {
	for _, x := range []struct {
		l         []float64
		sum, mean float64
	}{
		{nil, 0, nan}, {[]float64{}, 0, nan},
		{[]float64{7}, 7, 7}, {[]float64{3, 1, 2}, 6, 2}, {[]float64{1, 2}, 3, 1.5}, {[]float64{-4, 2}, -2, -1}, {[]float64{1, 0, 0}, 1, 1.0 / 3},
		{[]float64{minus}, 0, 0}, {[]float64{minus, minus}, 0, 0}, {[]float64{0, minus}, 0, 0}, {[]float64{5, -5}, 0, 0},
		{[]float64{nan}, nan, nan}, {[]float64{nan, 5}, nan, nan}, {[]float64{5, nan}, nan, nan}, {[]float64{inf, nan}, nan, nan},
		{[]float64{inf, 7}, inf, inf}, {[]float64{below, 7}, below, below}, {[]float64{inf, inf}, inf, inf}, {[]float64{inf, below}, nan, nan}, {[]float64{below, 1, inf}, nan, nan},
		{[]float64{most, most}, inf, inf}, {[]float64{-most, -most}, below, below}, {[]float64{most, most, -most}, inf, inf}, {[]float64{most, -most, most}, most, most / 3}, {[]float64{most, most, below}, nan, nan},
		{[]float64{tiny, 0}, tiny, 0}, {[]float64{-tiny, 0}, -tiny, minus}, {[]float64{tiny, tiny}, 2 * tiny, tiny},
	} {
		if got := gauge.Sum(x.l); !same(got, x.sum) {
			t.Errorf("Sum(%v): %v, not %v", x.l, got, x.sum)
		}
		if got := gauge.Mean(x.l); !same(got, x.mean) {
			t.Errorf("Mean(%v): %v, not %v", x.l, got, x.mean)
		}
	}
}

// TestSumIsOneBehindTheOther: what a float loses hangs on the order, and on what is not made good for.
func TestSumIsOneBehindTheOther(t *testing.T) {
	for _, x := range []struct {
		l    []float64
		want float64
	}{
		{[]float64{1 << 53, 1, 1}, 1 << 53}, {[]float64{1, 1, 1 << 53}, 1<<53 + 2}, {[]float64{1, 1 << 53, 1}, 1 << 53},
		{[]float64{1e308, -1e308, 0.5}, 0.5}, {[]float64{0.5, 1e308, -1e308}, 0}, {[]float64{1e100, 1, -1e100, 1}, 1},
		{[]float64{1e16, 1, 1, 1, 1}, 1e16}, {[]float64{1, 1, 1, 1, 1e16}, 1e16 + 4},
		{[]float64{0.1, 0.1, 0.1, 0.1, 0.1, 0.1, 0.1, 0.1, 0.1, 0.1}, 0.9999999999999999},
	} {
		if got := gauge.Sum(x.l); !same(got, x.want) {
			t.Errorf("Sum(%v): %v, not %v", x.l, got, x.want)
		}
		if got := gauge.Mean(x.l); !same(got, x.want/float64(len(x.l))) {
			t.Errorf("Mean(%v): %v", x.l, got)
		}
	}
}

func TestSumGrowsOneByOne(t *testing.T) {
	for _, l := range lists() {
		if len(l) == 0 {
			continue
		}
		last := len(l) - 1
		if got, want := gauge.Sum(l), gauge.Sum(l[:last])+l[last]; !same(got, want) {
			t.Errorf("Sum(%v): %v, not %v", l, got, want)
		}
		if got, want := gauge.Mean(l), gauge.Sum(l)/float64(len(l)); !same(got, want) {
			t.Errorf("Mean(%v): %v, not %v", l, got, want)
		}
	}
}

func TestRatioExamples(t *testing.T) {
	for _, x := range []struct {
		a, b int
		want float64
	}{
		{1, 2, 0.5}, {6, 3, 2}, {7, 7, 1}, {-6, 3, -2}, {7, -2, -3.5}, {-9, -4, 2.25}, {1, 3, 1.0 / 3}, {2, 3, 2.0 / 3},
		{0, 0, nan}, {1, 0, inf}, {3, 0, inf}, {-1, 0, below}, {-3, 0, below}, {math.MaxInt, 0, inf}, {math.MinInt, 0, below},
		{0, 5, 0}, {0, -5, minus}, {0, math.MaxInt, 0}, {0, math.MinInt, minus},
		{math.MinInt, -1, 1 << 63}, {math.MinInt, 1, -1 << 63}, {math.MaxInt, 1, 1 << 63}, {math.MaxInt, math.MaxInt, 1}, {math.MinInt, math.MaxInt, -1}, {math.MinInt, math.MinInt, 1}, {1, math.MinInt, -0x1p-63},
		{1<<53 + 1, 1, 1 << 53}, {1<<53 + 3, 1, 1<<53 + 4}, {1, 1<<53 + 1, 0x1p-53}, {1<<53 + 1, 1<<53 + 1, 1}, {1<<53 + 1, 1 << 53, 1},
	} {
		if got := gauge.Ratio(x.a, x.b); !same(got, x.want) {
			t.Errorf("Ratio(%d, %d): %v, not %v", x.a, x.b, got, x.want)
		}
	}
}

// TestRatioIsTheNearest: where both are floats as they are, it is the float that is nearest to a by b.
func TestRatioIsTheNearest(t *testing.T) {
	for a := -70; a <= 70; a++ {
		for b := -70; b <= 70; b++ {
			if a == 0 || b == 0 {
				continue
			}
			if want, _ := big.NewRat(int64(a), int64(b)).Float64(); gauge.Ratio(a, b) != want {
				t.Errorf("Ratio(%d, %d): %v, not %v", a, b, gauge.Ratio(a, b), want)
			}
		}
	}
}

func TestWholeExamples(t *testing.T) {
	for _, x := range []struct{ l, want []float64 }{
		{nil, nil}, {[]float64{}, nil}, {[]float64{nan}, nil}, {[]float64{inf}, nil}, {[]float64{below}, nil}, {[]float64{nan, inf, below, nan}, nil}, {nans(), nil},
		{[]float64{5, nan, 3, below, minus}, []float64{5, 3, minus}}, {[]float64{3, 1, 3, 2}, []float64{3, 1, 3, 2}}, {[]float64{0, minus, 0}, []float64{0, minus, 0}},
		{[]float64{nan, 1}, []float64{1}}, {[]float64{1, nan}, []float64{1}}, {[]float64{1, inf}, []float64{1}}, {[]float64{inf, 2, 1, inf}, []float64{2, 1}},
		{[]float64{most, -most, tiny, -tiny, 0.5}, []float64{most, -most, tiny, -tiny, 0.5}},
	} {
		if got := gauge.Whole(x.l); !sameAll(got, x.want) {
			t.Errorf("Whole(%v): %v, not %v", x.l, got, x.want)
		}
	}
}

// TestWholeIsWhatIsFinite: the list is what was left out and what was told, laid together in order.
func TestWholeIsWhatIsFinite(t *testing.T) {
	for _, l := range lists() {
		rest := gauge.Whole(l)
		for _, x := range l {
			if math.IsNaN(x) || math.IsInf(x, 0) {
				continue
			}
			if len(rest) == 0 || !same(rest[0], x) {
				t.Fatalf("Whole(%v): %v", l, gauge.Whole(l))
			}
			rest = rest[1:]
		}
		if len(rest) != 0 {
			t.Errorf("Whole(%v): %v", l, gauge.Whole(l))
		}
	}
}

// TestNothingHandedInIsChanged looks at the spare room, too.
func TestNothingHandedInIsChanged(t *testing.T) {
	for _, l := range lists() {
		room := append(slices.Clone(l), 11, 12, 13)
		want := slices.Clone(room)
		in := room[:len(l)]
		gauge.Least(in)
		gauge.Most(in)
		gauge.Sum(in)
		gauge.Mean(in)
		gauge.Whole(in)
		if !sameBits(room, want) {
			t.Errorf("%v: then %v", want, room)
		}
	}
}

func sameBits(a, b []float64) bool {
	return slices.EqualFunc(a, b, func(x, y float64) bool { return math.Float64bits(x) == math.Float64bits(y) })
}

func TestWholeIsNewMemory(t *testing.T) {
	for _, l := range lists() {
		in := slices.Clone(l)
		one, two := gauge.Whole(in), gauge.Whole(in)
		want := slices.Clone(one)
		for i := range in {
			in[i] = 99
		}
		if !sameAll(one, want) {
			t.Errorf("Whole(%v) changed with what was handed in", l)
		}
		scribble(one)
		if !sameAll(two, want) || slices.ContainsFunc(in, func(x float64) bool { return x != 99 }) {
			t.Errorf("Whole(%v) is kept", l)
		}
	}
}

// scribble writes all over a list and its spare room.
func scribble(l []float64) {
	l = l[:cap(l)]
	for i := range l {
		l[i] = -7
	}
}

// TestTheSameAgain: nothing hangs on what was asked before.
func TestTheSameAgain(t *testing.T) {
	type answer struct{ least, most, sum, mean float64 }
	ask := func(l []float64) answer {
		return answer{gauge.Least(l), gauge.Most(l), gauge.Sum(l), gauge.Mean(l)}
	}
	var first []answer
	for _, l := range lists() {
		first = append(first, ask(l))
	}
	for i, l := range lists() {
		one, two := first[i], ask(l)
		if !sameAll([]float64{one.least, one.most, one.sum, one.mean}, []float64{two.least, two.most, two.sum, two.mean}) {
			t.Errorf("%v: %v, then %v", l, one, two)
		}
	}
}
