package tests

import (
	"math"
	"math/big"
	"slices"
	"testing"

	"loop.example/g01278/impl"
)

func meter(s impl.Stack, num, den, start int64) impl.Meter {
	return impl.Meter{Stack: s, Num: num, Den: den, Start: start}
}

func portion(p, q int64) impl.Portion { return impl.Portion{P: p, Q: q} }

func total(day, count int64) impl.Total { return impl.Total{Day: day, Count: count} }

// totals returns a list of a day and a count each.
func totals(numbers ...int64) []impl.Total {
	var list []impl.Total
	for i := 0; i+1 < len(numbers); i += 2 {
		list = append(list, total(numbers[i], numbers[i+1]))
	}
	return list
}

// steady returns n totals, by some days and some counts apart.
func steady(n int, day, days, count, counts int64) []impl.Total {
	var list []impl.Total
	for i := range int64(n) {
		list = append(list, total(day+i*days, count+i*counts))
	}
	return list
}

// numbersFrom returns what gives a number from 0 to end less 1, one after the other, and
// the same ones for the same seed.
func numbersFrom(seed uint64) func(end int64) int64 {
	return func(end int64) int64 {
		seed = seed*6364136223846793005 + 1442695040888963407
		return int64(seed>>33) % end
	}
}

// madeTotals returns n totals, the same ones for the same numbers: some days apart,
// with some counts more.
func madeTotals(n int, days, counts int64, seed uint64) []impl.Total {
	next := numbersFrom(seed)
	var list []impl.Total
	day, count := next(6), next(counts)
	for range n {
		list = append(list, total(day, count))
		day += 1 + next(days)
		if next(4) > 0 {
			count += next(counts)
		}
	}
	return list
}

// turbine is driven by one unit of a flow at a time, and counts with an odometer, so
// that it shares no arithmetic with the package.
type turbine struct {
	odometer
	num, den int64
	rest     int64
	count    int64
}

func turbineOf(m impl.Meter) *turbine {
	return &turbine{odometer: odometer{bases: m.Stack, shows: allDigits(m.Stack)[m.Start]}, num: m.Num, den: m.Den}
}

// drive lets one unit flow.
func (w *turbine) drive() {
	w.rest += w.num
	for w.rest >= w.den {
		w.rest -= w.den
		w.count++
		w.up()
	}
}

// sumAfter returns what a meter has counted behind a flow, and its Start.
func sumAfter(m impl.Meter, flow int64) *big.Int {
	sum := new(big.Int).Mul(big.NewInt(flow), big.NewInt(m.Num))
	sum.Div(sum, big.NewInt(m.Den))
	return sum.Add(sum, big.NewInt(m.Start))
}

// explains reports whether a number explains pairs: the second one of each is the
// greatest integer that is at most so many times the first one.
func explains(r *big.Rat, pairs [][2]int64) bool {
	for _, pair := range pairs {
		times := new(big.Rat).Mul(r, big.NewRat(pair[0], 1))
		if new(big.Int).Div(times.Num(), times.Denom()).Cmp(big.NewInt(pair[1])) != 0 {
			return false
		}
	}
	return true
}

// countByWords tells how much has been counted up to a day, as the document says it,
// or false if it is not known.
func countByWords(list []impl.Total, day int64) (int64, bool) {
	for i, t := range list {
		if t.Day == day {
			return t.Count, true
		}
		if i == 0 || t.Day < day || list[i-1].Day > day {
			continue
		}
		before := list[i-1]
		part := new(big.Int).Mul(big.NewInt(t.Count-before.Count), big.NewInt(day-before.Day))
		part.Div(part, big.NewInt(t.Day-before.Day))
		return before.Count + part.Int64(), true
	}
	return 0, false
}

// commonByWords returns all days of 0 to last on which all lists have a count.
func commonByWords(last int64, lists ...[]impl.Total) []int64 {
	var days []int64
	for day := range last + 1 {
		if !slices.ContainsFunc(lists, func(list []impl.Total) bool { _, ok := countByWords(list, day); return !ok }) {
			days = append(days, day)
		}
	}
	return days
}

// driftByWords returns the drift of two lists on a common day.
func driftByWords(a, b []impl.Total, day int64) int64 {
	first, _ := countByWords(a, day)
	second, _ := countByWords(b, day)
	return first - second
}

func sizeOfDrift(drift int64) int64 {
	if drift < 0 {
		return -drift
	}
	return drift
}

// badNumbers are none of 0 to most, nor any number that is asked of the package.
func badNumbers(most int64) []int64 {
	return []int64{-1, most + 1, -most, math.MinInt64, math.MaxInt64, math.MinInt64 + 1, -1 << 32, 1 << 62, -1 << 62}
}

// badMeters are not valid, each for another reason.
func badMeters() []impl.Meter {
	ten := impl.Stack{10, 10}
	list := []impl.Meter{
		{},
		meter(ten, 0, 1, 0), meter(ten, 1, 0, 0), meter(ten, 0, 0, 0), meter(ten, -1, 1, 0), meter(ten, 1, -1, 0), meter(ten, -1, -1, 0),
		meter(ten, impl.MaxScale+1, 1, 0), meter(ten, 1, impl.MaxScale+1, 0), meter(ten, impl.MaxScale+1, impl.MaxScale+1, 0),
		meter(ten, math.MinInt64, 1, 0), meter(ten, 1, math.MinInt64, 0), meter(ten, math.MaxInt64, 1, 0), meter(ten, 1, math.MaxInt64, 0),
		meter(ten, 1, 3, -1), meter(ten, 1, 3, 100), meter(ten, 1, 3, math.MinInt64), meter(ten, 1, 3, math.MaxInt64), meter(ten, 1, 3, 1<<32),
	}
	for _, s := range badStacks() {
		list = append(list, meter(s, 1, 3, 0))
	}
	return list
}

// badPortions are not valid, each for another reason.
func badPortions() []impl.Portion {
	return []impl.Portion{{}, portion(1, 0), portion(0, 0), portion(-1, 2), portion(1, -2), portion(-1, -2), portion(1000000001, 1), portion(1, 1000000001),
		portion(math.MinInt64, 1), portion(1, math.MinInt64), portion(math.MaxInt64, 1), portion(1, math.MaxInt64), portion(-1000000000, 1)}
}

// badTotals are not valid, each for another reason.
func badTotals() [][]impl.Total {
	return [][]impl.Total{
		totals(-1, 0), totals(impl.MaxLogDay+1, 0), totals(math.MinInt64, 0), totals(math.MaxInt64, 0), totals(1<<32, 5),
		totals(0, -1), totals(0, impl.MaxCount+1), totals(0, math.MinInt64), totals(0, math.MaxInt64),
		totals(0, 5, 1, -1), totals(0, 5, impl.MaxLogDay+1, 6), totals(0, 5, 1, impl.MaxCount+1), totals(-1, 5, 1, 6), totals(0, -1, 1, 6),
		totals(3, 5, 3, 5), totals(3, 5, 3, 6), totals(3, 5, 2, 6), totals(0, 5, 4, 6, 3, 7), totals(0, 5, 4, 6, 4, 7, 5, 8), totals(1, 5, 0, 6, 2, 7),
		totals(0, 5, 1, 4), totals(0, 5, 1, 6, 2, 5), totals(0, 5, 1, 4, 2, 6), totals(0, impl.MaxCount, 1, impl.MaxCount-1),
		steady(impl.MaxTotals+1, 0, 1, 0, 1), steady(impl.MaxTotals+1, 0, 1, 5, 0), make([]impl.Total, 2), make([]impl.Total, 100), steady(50000, 0, 1, 0, 1),
	}
}

func mustCount(t *testing.T, list []impl.Total, day int64) int64 {
	t.Helper()
	count, code := impl.CountOn(list, day)
	if code != impl.OK {
		t.Fatalf("CountOn(%v, %d): code %d", list, day, code)
	}
	return count
}
