package tests

import (
	"fmt"
	"math"
	"math/big"
	"slices"
	"testing"

	"loop.example/g01278/impl"
)

// lattice returns all fractions with a denominator of at most deep that are 0 to most,
// in ascending order, each one without common divisors.
func lattice(deep, most int64) []*big.Rat {
	var list []*big.Rat
	for q := int64(1); q <= deep; q++ {
		for p := int64(0); p <= most*q; p++ {
			list = append(list, big.NewRat(p, q))
		}
	}
	slices.SortFunc(list, (*big.Rat).Cmp)
	return slices.CompactFunc(list, func(a, b *big.Rat) bool { return a.Cmp(b) == 0 })
}

func portionOf(r *big.Rat) impl.Portion { return portion(r.Num().Int64(), r.Denom().Int64()) }

// simplestOf returns the one of some fractions with the least denominator, and the
// least numerator.
func simplestOf(list []*big.Rat) impl.Portion {
	return portionOf(slices.MinFunc(list, func(a, b *big.Rat) int {
		if c := a.Denom().Cmp(b.Denom()); c != 0 {
			return c
		}
		return a.Num().Cmp(b.Num())
	}))
}

// TestPromise14All tries all fractions that may be bounds, or the simplest portion.
func TestPromise14All(t *testing.T) {
	const deep, most = 9, 5
	grid := lattice(deep, most)
	next := numbersFrom(1)
	found, none := 0, 0
	for n := range 4000 {
		r := grid[next(int64(len(grid)))]
		var pairs [][2]int64
		for range 1 + n%5 {
			first := 1 + next(deep)
			times := new(big.Rat).Mul(r, big.NewRat(first, 1))
			second := new(big.Int).Div(times.Num(), times.Denom()).Int64()
			if next(6) == 0 {
				second = max(0, second+next(3)-1)
			}
			pairs = append(pairs, [2]int64{first, min(second, first*(most-1))})
		}
		if checkPairs(t, grid, pairs) {
			found++
		} else {
			none++
		}
	}
	for first := int64(1); first <= deep; first++ {
		for second := range first*(most-1) + 1 {
			checkPairs(t, grid, [][2]int64{{first, second}})
			for other := int64(1); other <= 6; other++ {
				for third := range other*2 + 1 {
					checkPairs(t, grid, [][2]int64{{first, second}, {other, third}})
				}
			}
		}
	}
	if found < 500 || none < 500 {
		t.Errorf("%d lists of pairs are explained, and %d are not", found, none)
	}
}

// checkPairs checks pairs against all fractions of a list, and reports whether there
// is one that explains them.
func checkPairs(t *testing.T, grid []*big.Rat, pairs [][2]int64) bool {
	t.Helper()
	var list []*big.Rat
	end := 0
	for i, r := range grid {
		if explains(r, pairs) {
			list = append(list, r)
			end = i + 1
		}
	}
	var low, high, simple impl.Portion
	want := int64(impl.ErrNotFound)
	if len(list) > 0 {
		// Of all that explain the pairs the first one is counted, and the next one
		// behind them is not.
		low, high, simple, want = portionOf(list[0]), portionOf(grid[end]), simplestOf(list), impl.OK
	}
	if a, b, code := impl.PortionBounds(pairs); a != low || b != high || code != want {
		t.Fatalf("PortionBounds(%v) = %v, %v, %d, want %v, %v, %d", pairs, a, b, code, low, high, want)
	}
	if p, code := impl.FindPortion(pairs); p != simple || code != want {
		t.Fatalf("FindPortion(%v) = %v, %d, want %v, %d", pairs, p, code, simple, want)
	}
	if want == impl.OK {
		checkSimplest(t, low, high, simple)
	}
	return want == impl.OK
}

func checkSimplest(t *testing.T, low, high, want impl.Portion) {
	t.Helper()
	if p, code := impl.SimplestPortion(low, high); p != want || code != impl.OK {
		t.Fatalf("SimplestPortion(%v, %v) = %v, %d, want %v", low, high, p, code, want)
	}
}

// TestPromise14Between tries all portions with small numbers, with common divisors too.
func TestPromise14Between(t *testing.T) {
	const deep = 9
	grid := lattice(deep, 3)
	for q1 := int64(1); q1 <= deep; q1++ {
		for p1 := range 2*q1 + 1 {
			for q2 := int64(1); q2 <= deep; q2++ {
				for p2 := range 3*q2 + 1 {
					low, high := big.NewRat(p1, q1), big.NewRat(p2, q2)
					if low.Cmp(high) >= 0 {
						p, code := impl.SimplestPortion(portion(p1, q1), portion(p2, q2))
						if p != (impl.Portion{}) || code != impl.ErrState {
							t.Fatalf("SimplestPortion(%d / %d, %d / %d) = %v, %d", p1, q1, p2, q2, p, code)
						}
						continue
					}
					list := slices.Clone(grid)
					list = slices.DeleteFunc(list, func(r *big.Rat) bool { return r.Cmp(low) < 0 || r.Cmp(high) >= 0 })
					checkSimplest(t, portion(p1, q1), portion(p2, q2), simplestOf(list))
				}
			}
		}
	}
}

// simplestByTurns finds the simplest fraction that is at least low and less than high
// without a search: if no integer is, all of them have the same whole part, and what is
// left, turned over, is the simplest one between what is left of both. If above is
// true, it is more than low, and at most high.
func simplestByTurns(low, high *big.Rat, above bool) *big.Rat {
	whole := new(big.Int).Div(low.Num(), low.Denom()) // at most low
	least := new(big.Rat).SetInt(whole)
	if above || least.Cmp(low) < 0 {
		least.Add(least, big.NewRat(1, 1))
	}
	if c := least.Cmp(high); c < 0 || above && c == 0 {
		return least
	}
	base := new(big.Rat).SetInt(whole)
	top := new(big.Rat).Inv(new(big.Rat).Sub(high, base))
	if low.Cmp(base) == 0 {
		// Only what is more than low is left, however near: 1 / n for a great n.
		n := new(big.Int).Div(top.Num(), top.Denom())
		if new(big.Rat).SetInt(n).Cmp(top) < 0 {
			n.Add(n, big.NewInt(1))
		}
		return base.Add(base, new(big.Rat).SetFrac(big.NewInt(1), n))
	}
	bottom := new(big.Rat).Inv(new(big.Rat).Sub(low, base))
	rest := simplestByTurns(top, bottom, !above)
	return base.Add(base, rest.Inv(rest))
}

// TestPromise14Great has pairs of up to MaxPair, and up to just 60 of them.
func TestPromise14Great(t *testing.T) {
	next := numbersFrom(7)
	deep := 0
	for n := range 300 {
		q := 1 + next(impl.MaxPair)
		p := next(2*q + 1)
		r := big.NewRat(p, q)
		var pairs [][2]int64
		for range 1 + n%60 {
			first := 1 + next(impl.MaxPair/2)
			times := new(big.Rat).Mul(r, big.NewRat(first, 1))
			pairs = append(pairs, [2]int64{first, new(big.Int).Div(times.Num(), times.Denom()).Int64()})
		}
		low, high, code := impl.PortionBounds(pairs)
		if code != impl.OK || big.NewRat(low.P, low.Q).Cmp(r) > 0 || big.NewRat(high.P, high.Q).Cmp(r) <= 0 {
			t.Fatalf("PortionBounds(%v) = %v, %v, %d, but %v explains them", pairs, low, high, code, r)
		}
		want := portionOf(simplestByTurns(big.NewRat(low.P, low.Q), big.NewRat(high.P, high.Q), false))
		checkSimplest(t, low, high, want)
		x, code := impl.FindPortion(pairs)
		if x != want || code != impl.OK || !explains(big.NewRat(x.P, x.Q), pairs) {
			t.Fatalf("FindPortion(%v) = %v, %d, want %v", pairs, x, code, want)
		}
		if x.Q > 100 {
			deep++
		}
		checkTight14(t, pairs, low, high)
		checkNoSimpler(t, pairs, x)
	}
	if deep < 50 {
		t.Errorf("%d portions have a Q of more than 100", deep)
	}
}

// checkTight14 checks that the low bound explains pairs, that nothing less does, that
// the high one does not, and that what is a little less than it does.
func checkTight14(t *testing.T, pairs [][2]int64, low, high impl.Portion) {
	t.Helper()
	bottom, top, little := big.NewRat(low.P, low.Q), big.NewRat(high.P, high.Q), big.NewRat(1, 100000000000000)
	less, nearly := new(big.Rat).Sub(bottom, little), new(big.Rat).Sub(top, little)
	if !explains(bottom, pairs) || low.P > 0 && explains(less, pairs) || explains(top, pairs) || !explains(nearly, pairs) {
		t.Fatalf("PortionBounds(%v) = %v, %v", pairs, low, high)
	}
	for _, p := range []impl.Portion{low, high} {
		if lowest := big.NewRat(p.P, p.Q); portionOf(lowest) != p {
			t.Fatalf("PortionBounds(%v) has %v, which has common divisors", pairs, p)
		}
	}
}

// checkNoSimpler checks that no portion with a lesser Q, or a lesser P, explains pairs.
func checkNoSimpler(t *testing.T, pairs [][2]int64, x impl.Portion) {
	t.Helper()
	for q := max(1, x.Q-300); q <= x.Q; q++ {
		for p := max(0, x.P*q/x.Q-2); p <= x.P*q/x.Q+2; p++ {
			if (q < x.Q || p < x.P) && explains(big.NewRat(p, q), pairs) {
				t.Fatalf("FindPortion(%v) = %v, but %d / %d explains them, too", pairs, x, p, q)
			}
		}
	}
}

// TestPromise14ByHand has pairs whose bounds are told here.
func TestPromise14ByHand(t *testing.T) {
	const most, lost = impl.MaxPair, int64(impl.ErrNotFound)
	tests := []struct {
		pairs             [][2]int64
		low, high, simple impl.Portion
		code              int64
	}{
		{[][2]int64{{3, 2}, {7, 5}}, portion(5, 7), portion(6, 7), portion(3, 4), impl.OK},
		{[][2]int64{{7, 5}, {3, 2}}, portion(5, 7), portion(6, 7), portion(3, 4), impl.OK},
		{[][2]int64{{1, 0}}, portion(0, 1), portion(1, 1), portion(0, 1), impl.OK}, // one pair
		{[][2]int64{{1, 1}}, portion(1, 1), portion(2, 1), portion(1, 1), impl.OK},
		{[][2]int64{{1, 7}}, portion(7, 1), portion(8, 1), portion(7, 1), impl.OK},
		{[][2]int64{{4, 2}}, portion(1, 2), portion(3, 4), portion(1, 2), impl.OK}, // the low bound has common divisors, if it is not reduced
		{[][2]int64{{4, 1}}, portion(1, 4), portion(1, 2), portion(1, 3), impl.OK}, // the high one has
		{[][2]int64{{4, 0}}, portion(0, 1), portion(1, 4), portion(0, 1), impl.OK},
		{[][2]int64{{6, 3}, {12, 7}}, portion(7, 12), portion(2, 3), portion(3, 5), impl.OK}, // it is 2 / 3 of both
		{[][2]int64{{10, 14}}, portion(7, 5), portion(3, 2), portion(7, 5), impl.OK},
		{[][2]int64{{6, 8}}, portion(4, 3), portion(3, 2), portion(4, 3), impl.OK},
		{[][2]int64{{9, 11}}, portion(11, 9), portion(4, 3), portion(5, 4), impl.OK},
		{[][2]int64{{2, 1}, {4, 2}}, portion(1, 2), portion(3, 4), portion(1, 2), impl.OK}, // both begin at 1 / 2
		{[][2]int64{{2, 1}, {4, 3}}, portion(3, 4), portion(1, 1), portion(3, 4), impl.OK}, // both end at 1
		{[][2]int64{{5, 2}, {5, 2}}, portion(2, 5), portion(3, 5), portion(1, 2), impl.OK}, // twice the same
		{[][2]int64{{2, 0}, {4, 2}}, impl.Portion{}, impl.Portion{}, impl.Portion{}, lost}, // less than 1 / 2, and at least 1 / 2
		{[][2]int64{{4, 2}, {2, 0}}, impl.Portion{}, impl.Portion{}, impl.Portion{}, lost},
		{[][2]int64{{1, 0}, {1, 1}}, impl.Portion{}, impl.Portion{}, impl.Portion{}, lost},
		{[][2]int64{{3, 1}, {6, 4}}, impl.Portion{}, impl.Portion{}, impl.Portion{}, lost},
		{[][2]int64{{3, 1}, {6, 3}}, portion(1, 2), portion(2, 3), portion(1, 2), impl.OK},
		{[][2]int64{{1, 0}, {1, 5}}, impl.Portion{}, impl.Portion{}, impl.Portion{}, lost}, // far from each other
		{[][2]int64{{3, 2}, {7, 5}, {1, 1}}, impl.Portion{}, impl.Portion{}, impl.Portion{}, lost},
		{[][2]int64{{1, 1}, {3, 2}, {7, 5}}, impl.Portion{}, impl.Portion{}, impl.Portion{}, lost},
		{[][2]int64{{most, 0}}, portion(0, 1), portion(1, most), portion(0, 1), impl.OK},
		{[][2]int64{{most, most}}, portion(1, 1), portion(most+1, most), portion(1, 1), impl.OK},
		{[][2]int64{{most, most - 1}}, portion(most-1, most), portion(1, 1), portion(most-1, most), impl.OK},
		{[][2]int64{{most, 1}}, portion(1, most), portion(1, most/2), portion(1, most/2+1), impl.OK},
		{[][2]int64{{1, most}}, portion(most, 1), portion(most+1, 1), portion(most, 1), impl.OK},
		{[][2]int64{{1, most}, {2, most}}, impl.Portion{}, impl.Portion{}, impl.Portion{}, lost},
		{[][2]int64{{most, 71828}, {1000, 718}}, portion(17957, 25000), portion(71829, most), portion(385, 536), impl.OK},
		{slices.Repeat([][2]int64{{3, 2}}, 60), portion(2, 3), portion(1, 1), portion(2, 3), impl.OK},                         // just 60
		{append(slices.Repeat([][2]int64{{3, 2}}, 59), [2]int64{7, 5}), portion(5, 7), portion(6, 7), portion(3, 4), impl.OK}, // the last one counts
		{append(slices.Repeat([][2]int64{{3, 2}}, 59), [2]int64{1, 1}), impl.Portion{}, impl.Portion{}, impl.Portion{}, lost},
	}
	for _, x := range tests {
		if low, high, code := impl.PortionBounds(x.pairs); low != x.low || high != x.high || code != x.code {
			t.Errorf("PortionBounds(%v) = %v, %v, %d, want %v, %v, %d", x.pairs, low, high, code, x.low, x.high, x.code)
		}
		if p, code := impl.FindPortion(x.pairs); p != x.simple || code != x.code {
			t.Errorf("FindPortion(%v) = %v, %d, want %v, %d", x.pairs, p, code, x.simple, x.code)
		}
		if x.code == impl.OK {
			checkTight14(t, x.pairs, x.low, x.high)
			checkNoSimpler(t, x.pairs, x.simple)
		}
	}
}

// TestPromise14SimplestByHand has portions between which the simplest one is told here.
func TestPromise14SimplestByHand(t *testing.T) {
	const most, part = impl.MaxPair, 1000000000
	tests := []struct{ low, high, want impl.Portion }{
		{portion(5, 7), portion(6, 7), portion(3, 4)},
		{portion(0, 5), portion(1, 2), portion(0, 1)}, // a P of 0
		{portion(0, 1), portion(1, most), portion(0, 1)},
		{portion(0, most), portion(1, most), portion(0, 1)},
		{portion(0, 1), portion(part, 1), portion(0, 1)},
		{portion(1, 2), portion(3, 4), portion(1, 2)}, // low is simple itself
		{portion(2, 4), portion(3, 4), portion(1, 2)},
		{portion(50, 100), portion(51, 100), portion(1, 2)},
		{portion(3, 1), portion(4, 1), portion(3, 1)},
		{portion(6, 2), portion(10, 3), portion(3, 1)},
		{portion(1, 3), portion(1, 2), portion(1, 3)}, // high would be simpler
		{portion(2, 5), portion(1, 2), portion(2, 5)},
		{portion(5, 12), portion(1, 2), portion(3, 7)},
		{portion(5, 12), portion(2, 4), portion(3, 7)},
		{portion(2, 3), portion(1, 1), portion(2, 3)},
		{portion(9, 10), portion(1, 1), portion(9, 10)},
		{portion(5, 2), portion(3, 1), portion(5, 2)},
		{portion(12, 5), portion(3, 1), portion(5, 2)},
		{portion(12, 5), portion(5, 2), portion(12, 5)},
		{portion(1, 3), portion(5, 2), portion(1, 1)}, // the least of several integers
		{portion(4, 3), portion(50, 7), portion(2, 1)},
		{portion(1, 1), portion(50, 7), portion(1, 1)},
		{portion(11, 10), portion(9, 5), portion(3, 2)},
		{portion(314, 100), portion(315, 100), portion(22, 7)},
		{portion(3141, 1000), portion(22, 7), portion(245, 78)},
		{portion(999999999, 1), portion(part, 1), portion(999999999, 1)}, // the greatest P
		{portion(999999999, most), portion(part, most), portion(999999999, most)},
		{portion(most-1, most), portion(1, 1), portion(most-1, most)}, // a Q of just MaxPair
		{portion(1, most), portion(2, most), portion(1, most/2+1)},
		{portion(1, most), portion(1, most-1), portion(1, most)},
		{portion(49999, most), portion(50001, most), portion(1, 2)},
		{portion(1, most), portion(part, 1), portion(1, 1)},
	}
	for _, x := range tests {
		if p, code := impl.SimplestPortion(x.low, x.high); p != x.want || code != impl.OK {
			t.Errorf("SimplestPortion(%v, %v) = %v, %d, want %v", x.low, x.high, p, code, x.want)
		}
		low, high := big.NewRat(x.low.P, x.low.Q), big.NewRat(x.high.P, x.high.Q)
		if other := portionOf(simplestByTurns(low, high, false)); other != x.want {
			t.Errorf("by turns, the simplest one of %v and %v is %v, not %v", x.low, x.high, other, x.want)
		}
	}
}

// TestPromise14Turns checks what is found without a search, for many portions.
func TestPromise14Turns(t *testing.T) {
	next := numbersFrom(3)
	for n := range 300 {
		end := []int64{10, 1000, impl.MaxPair}[n%3]
		low := portion(next(end*5), 1+next(end))
		high := portion(low.P*1000/low.Q+1+next(50), 1000)
		if n%2 == 0 {
			q := 1 + next(end)
			high = portion(low.P*q/low.Q+1, q)
		}
		bottom, top := big.NewRat(low.P, low.Q), big.NewRat(high.P, high.Q)
		checkSimplest(t, low, high, portionOf(simplestByTurns(bottom, top, false)))
	}
}

// TestPromise14PairErrors checks which pairs are refused, and in which order.
func TestPromise14PairErrors(t *testing.T) {
	const most = impl.MaxPair
	good, none := [2]int64{3, 2}, [][2]int64{{1, 0}, {1, 1}}
	refused := func(pairs [][2]int64) {
		t.Helper()
		low, high, one := impl.PortionBounds(pairs)
		p, two := impl.FindPortion(pairs)
		if low != (impl.Portion{}) || high != (impl.Portion{}) || p != (impl.Portion{}) || one != impl.ErrRange || two != impl.ErrRange {
			t.Errorf("the pairs %v: %v, %v, %d, and %v, %d", pairs[:min(len(pairs), 4)], low, high, one, p, two)
		}
	}
	refused(nil)
	refused([][2]int64{})
	refused(slices.Repeat([][2]int64{good}, 61)) // one more than 60
	refused(slices.Repeat([][2]int64{good}, 100000))
	refused(slices.Repeat(none, 31)) // a range ahead of what is not found
	bad := [][2]int64{{0, 0}, {0, 2}, {-1, 2}, {most + 1, 2}, {1, -1}, {3, -1}, {1, most + 1}, {most + 1, most + 1}, {0, -1}, {-1, -1}, {math.MinInt64, 2}, {math.MaxInt64, 2},
		{3, math.MinInt64}, {3, math.MaxInt64}, {math.MinInt64, math.MinInt64}, {math.MinInt64, math.MaxInt64}, {1 << 32, 2}, {1<<32 + 3, 2}, {3, 1<<32 + 2}, {-3, -2}}
	for _, pair := range bad {
		refused([][2]int64{pair})
		refused([][2]int64{good, pair})
		refused([][2]int64{pair, good})
		refused([][2]int64{good, pair, good})
		refused([][2]int64{none[0], none[1], pair})
		refused(append(slices.Repeat([][2]int64{good}, 59), pair))
	}
}

// TestPromise14Errors checks which portions are refused, and in which order.
func TestPromise14Errors(t *testing.T) {
	const most, part = impl.MaxPair, 1000000000
	tests := []struct {
		low, high impl.Portion
		want      int64
	}{
		{portion(1, 2), portion(1, 2), impl.ErrState}, // equal
		{portion(1, 2), portion(2, 4), impl.ErrState},
		{portion(2, 4), portion(1, 2), impl.ErrState},
		{portion(0, 1), portion(0, 7), impl.ErrState},
		{portion(0, 7), portion(0, 1), impl.ErrState},
		{portion(2, 3), portion(1, 2), impl.ErrState}, // greater
		{portion(1, 2), portion(0, 1), impl.ErrState},
		{portion(part, 1), portion(999999999, 1), impl.ErrState},
		{portion(part, 1), portion(part, 1), impl.ErrState},
		{portion(part, most), portion(part, most), impl.ErrState},
		{portion(part, 1), portion(0, most), impl.ErrState},
		{portion(1, most+1), portion(1, 2), impl.ErrRange},
		{portion(1, 3), portion(most, most+1), impl.ErrRange},
		{portion(1, most+1), portion(2, most+1), impl.ErrRange},
		{portion(1, part), portion(1, 2), impl.ErrRange},
		{portion(0, part), portion(part, part), impl.ErrRange},
		{portion(2, most+1), portion(1, most+1), impl.ErrRange}, // a range ahead of the order
		{portion(1, 2), portion(1, most+1), impl.ErrRange},
		{portion(most, most+1), portion(1, 2), impl.ErrRange},
		{portion(part, part), portion(1, 2), impl.ErrRange},
	}
	for _, x := range tests {
		if p, code := impl.SimplestPortion(x.low, x.high); p != (impl.Portion{}) || code != x.want {
			t.Errorf("SimplestPortion(%v, %v) = %v, %d, want %d", x.low, x.high, p, code, x.want)
		}
	}
	for _, bad := range badPortions() {
		for _, other := range append(badPortions(), portion(1, 2), portion(0, 1), portion(part, 1), portion(1, most+1), portion(part, part)) {
			for _, ends := range [][2]impl.Portion{{bad, other}, {other, bad}} {
				p, code := impl.SimplestPortion(ends[0], ends[1])
				mustCode(t, fmt.Sprint("SimplestPortion of ", ends), code, impl.ErrInvalid)
				if p != (impl.Portion{}) {
					t.Errorf("SimplestPortion of %v is %v", ends, p)
				}
			}
		}
	}
}
