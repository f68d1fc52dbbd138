package tests

import (
	"fmt"
	"math"
	"runtime"
	"slices"
	"strings"
	"testing"

	"loop.example/g01278/impl"
)

// meterInput has an argument for every parameter of chapter 6.
type meterInput struct {
	m         impl.Meter
	s         impl.Stack
	log       []impl.Reading
	n, k      int64
	pairs     [][2]int64
	low, high impl.Portion
	a, b      []impl.Total
	outs      [][]impl.Total
	text      string
}

func (x meterInput) String() string {
	m := x.m
	m.Stack = m.Stack[:min(len(m.Stack), 9)]
	return fmt.Sprint(m, x.s[:min(len(x.s), 9)], x.log[:min(len(x.log), 9)], x.n, x.k, x.pairs[:min(len(x.pairs), 9)], x.low, x.high,
		x.a[:min(len(x.a), 9)], x.b[:min(len(x.b), 9)], x.outs[:min(len(x.outs), 9)], short(x.text))
}

func meterCalls() []call[meterInput] {
	return []call[meterInput]{
		{"ValidMeter", false, func(x meterInput) []any { return results(impl.ValidMeter(x.m)) }},
		{"CountAfter", true, func(x meterInput) []any { a, c := impl.CountAfter(x.m, x.n); return results(a, c) }},
		{"ShowsAfter", true, func(x meterInput) []any { a, b, c := impl.ShowsAfter(x.m, x.n); return results(a, b, c) }},
		{"FlowsFor", true, func(x meterInput) []any { a, b, c := impl.FlowsFor(x.m, x.n, x.k); return results(a, b, c) }},
		{"PortionBounds", true, func(x meterInput) []any { a, b, c := impl.PortionBounds(x.pairs); return results(a, b, c) }},
		{"SimplestPortion", true, func(x meterInput) []any { a, c := impl.SimplestPortion(x.low, x.high); return results(a, c) }},
		{"FindPortion", true, func(x meterInput) []any { a, c := impl.FindPortion(x.pairs); return results(a, c) }},
		{"ValidTotals", false, func(x meterInput) []any { return results(impl.ValidTotals(x.a)) }},
		{"SameTotals", false, func(x meterInput) []any { return results(impl.SameTotals(x.a, x.b)) }},
		{"TotalsFrom", true, func(x meterInput) []any { a, c := impl.TotalsFrom(x.s, x.log); return results(a, c) }},
		{"CountOn", true, func(x meterInput) []any { a, c := impl.CountOn(x.a, x.n); return results(a, c) }},
		{"SharesOf", true, func(x meterInput) []any { a, c := impl.SharesOf(x.n, x.k); return results(a, c) }},
		{"CountsByDay", true, func(x meterInput) []any { a, c := impl.CountsByDay(x.a); return results(a, c) }},
		{"DriftOn", true, func(x meterInput) []any { a, c := impl.DriftOn(x.a, x.b, x.n); return results(a, c) }},
		{"WorstDrift", true, func(x meterInput) []any { a, b, c := impl.WorstDrift(x.a, x.b); return results(a, b, c) }},
		{"BestShift", true, func(x meterInput) []any { a, b, c := impl.BestShift(x.a, x.b); return results(a, b, c) }},
		{"MergeTotals", true, func(x meterInput) []any { a, c := impl.MergeTotals(x.a, x.b); return results(a, c) }},
		{"LeaksIn", true, func(x meterInput) []any { a, c := impl.LeaksIn(x.a, x.outs, x.k); return results(a, c) }},
		{"TotalsText", false, func(x meterInput) []any { return results(impl.TotalsText(x.a)) }},
		{"ReadTotals", true, func(x meterInput) []any { a, c := impl.ReadTotals(x.text); return results(a, c) }},
	}
}

// meterInputs has valid and invalid arguments of every kind, mixed.
func meterInputs() []meterInput {
	meters := append(append(badMeters(), greatMeters()...), meter(impl.Stack{10, 10}, 1, 3, 95), meter(impl.Stack{10, 10}, 3, 1, 0), meter(impl.Stack{2, 3, 4}, 2, 3, 5))
	meters = slices.DeleteFunc(meters, func(m impl.Meter) bool { return len(m.Stack) > 1000 })
	logs := [][]impl.Reading{nil, {}, daily(5), daily(10, 13, 15), daily(95, 3, 2), daily(impl.MaxCount-1, impl.MaxCount-2), badLogs()[0], badLogs()[4]}
	pairs := [][][2]int64{nil, {}, {{3, 2}, {7, 5}}, {{1, 0}, {1, 1}}, {{0, 0}}, {{1, -1}}, {{impl.MaxPair, impl.MaxPair}}, {{impl.MaxPair + 1, 5}}, {{math.MinInt64, math.MaxInt64}},
		slices.Repeat([][2]int64{{3, 2}}, 60), slices.Repeat([][2]int64{{3, 2}}, 61)}
	portions := append(badPortions(), portion(1, 2), portion(3, 4), portion(0, 1), portion(1000000000, 1), portion(5, impl.MaxPair), portion(7, impl.MaxPair+1), portion(6, 7))
	lists := [][]impl.Total{nil, {}, totals(5, 9), totals(0, 0, 4, 10), totals(1, 1, 5, 5), totals(2, 5), totals(0, 0, impl.MaxLogDay, impl.MaxCount), totals(0, 0, 400, 3), totals(1, 0, 400, 400),
		steady(60, 0, 1, 0, 1), steady(60, 100, 1, 100, 1), steady(30, 0, 2, 0, 2)}
	for i := range uint64(6) {
		lists = append(lists, madeTotals(int(i*11), 5, 20, i))
	}
	lists = append(lists, slices.DeleteFunc(badTotals(), func(list []impl.Total) bool { return len(list) > 1000 })...)
	numbers := []int64{0, 1, 2, 3, 4, 5, 10, 95, 98, 99, 400, 401, -1, impl.MaxLogDay, impl.MaxLogDay + 1, impl.MaxCount, impl.MaxCount + 1, math.MaxInt64, math.MinInt64, 1 << 32, 1 << 34}
	texts := []string{"", "0 0\n4 10\n", "2 5\n2 6\n", "0 5", "\n", "1 5\n0 6\n", "x", "100000 1000000000000\n", "9\xff"}
	var inputs []meterInput
	for i, a := range lists {
		for j, b := range lists {
			sum := i*7 + j*11
			x := meterInput{
				m: meters[(sum+i*i)%len(meters)], s: []impl.Stack{{10, 10}, limitStack(), {2, 3, 4}, nil, {10, 1}}[(sum+j)%5], log: logs[(i+j*3)%len(logs)],
				n: numbers[(sum+j*j)%len(numbers)], k: numbers[(sum*3+i)%len(numbers)], pairs: pairs[sum%len(pairs)],
				low: portions[(sum+i)%len(portions)], high: portions[(sum*5+j)%len(portions)], a: a, b: b, text: texts[(sum+j)%len(texts)],
			}
			for k := range (i + j) % 8 {
				x.outs = append(x.outs, lists[(k+j)%min(len(lists), 12+i)])
			}
			inputs = append(inputs, x)
		}
	}
	return inputs
}

// guardMeters puts the slices of an input into longer ones, whose other elements are
// told too.
func guardMeters(x *meterInput) []any {
	all := make([]any, 7+len(x.outs))
	x.m.Stack, all[0] = inLonger(x.m.Stack, 17)
	x.s, all[1] = inLonger(x.s, 18)
	x.log, all[2] = inLonger(x.log, reading(17, 18))
	x.pairs, all[3] = inLonger(x.pairs, [2]int64{19, 20})
	x.a, all[4] = inLonger(x.a, total(17, 18))
	x.b, all[5] = inLonger(x.b, total(19, 20))
	x.outs, all[6] = inLonger(x.outs, totals(21, 22))
	for i, out := range x.outs {
		x.outs[i], all[7+i] = inLonger(out, total(23, 24))
	}
	return all
}

// TestPromise1Meters checks that every function of chapter 6 returns, twice the same,
// modifies no argument, and has zero values together with a code.
func TestPromise1Meters(t *testing.T) {
	checkCalls(t, meterCalls(), meterInputs(), guardMeters)
}

// TestPromise1BadMeters checks that each function of chapter 6 refuses what is not
// valid ahead of every other error, and that those without a code return nothing.
func TestPromise1BadMeters(t *testing.T) {
	m, ten := meter(impl.Stack{10, 10}, 1, 3, 95), totals(0, 0, 4, 10)
	goods := []meterInput{
		{m: m, s: m.Stack, log: daily(10, 13, 15), n: 3, k: 98, low: portion(1, 2), high: portion(3, 4), a: ten, b: totals(1, 1, 5, 5), outs: [][]impl.Total{ten}},
		{m: m, s: m.Stack, n: -1, k: -1, low: portion(3, 4), high: portion(1, 2)},
		{m: m, s: limitStack(), log: daily(7, 6, 5), n: math.MaxInt64, k: math.MinInt64, low: portion(1, 1000000000), high: portion(1, 1000000000), a: totals(0, 0, 1000, 0), b: totals(0, 1, 1000, 1),
			outs: slices.Repeat([][]impl.Total{totals(0, 0, 1000, 0)}, 7)},
	}
	first := []string{"ValidTotals", "CountOn", "CountsByDay", "DriftOn", "WorstDrift", "BestShift", "MergeTotals", "LeaksIn", "TotalsText"}
	for _, good := range goods {
		for _, bad := range badMeters() {
			x := good
			x.m = bad
			checkRefused(t, meterCalls(), x, "ValidMeter", "CountAfter", "ShowsAfter", "FlowsFor")
		}
		for _, bad := range badPortions() {
			x := good
			x.low = bad
			checkRefused(t, meterCalls(), x, "SimplestPortion")
			x.low, x.high = good.low, bad
			checkRefused(t, meterCalls(), x, "SimplestPortion")
		}
		for _, bad := range badTotals() {
			x := good
			x.a = bad
			checkRefused(t, meterCalls(), x, first...)
			x.a, x.b = good.a, bad
			checkRefused(t, meterCalls(), x, "DriftOn", "WorstDrift", "BestShift", "MergeTotals")
			for at := range len(good.outs) + 1 {
				x.outs = slices.Insert(slices.Clone(good.outs), at, bad)
				checkRefused(t, meterCalls(), x, "LeaksIn")
			}
		}
		for _, bad := range badStacks() {
			x := good
			x.s = bad
			checkRefused(t, meterCalls(), x, "TotalsFrom")
		}
		for _, bad := range badLogs() {
			x := good
			x.s, x.log = impl.Stack{10, 10}, bad
			checkRefused(t, meterCalls(), x, "TotalsFrom")
		}
	}
}

// TestPromise1ManyTotals checks that lists of many elements are gone through.
func TestPromise1ManyTotals(t *testing.T) {
	const many = 100000
	one := totals(3, 5)
	x := meterInput{
		m: meter(slices.Repeat(impl.Stack{2}, many), 1, 1, 0), s: impl.Stack{10, 10}, log: daily(make([]int64, many)...), n: 3, k: 3, pairs: slices.Repeat([][2]int64{{3, 2}}, many),
		low: portion(99999, 100000), high: portion(100000, 100000), a: steady(many, 0, 1, 0, 1), b: steady(many, 0, 1, 0, 1), outs: slices.Repeat([][]impl.Total{one}, many), text: strings.Repeat("0 5\n", many),
	}
	for _, c := range meterCalls() {
		checkZeros(t, c, x, c.run(x))
	}
	x.a = one
	if list, code := impl.LeaksIn(x.a, x.outs, 3); len(list) > 0 || code != impl.ErrRange {
		t.Errorf("LeaksIn with many outs is %v, %d", list, code)
	}
	x.outs[many-1] = totals(3, -5)
	checkRefused(t, meterCalls(), x, "LeaksIn")
	if !impl.SameTotals(x.b, steady(many, 0, 1, 0, 1)) {
		t.Error("SameTotals of many totals is false")
	}
}

// TestPromise1NewTotals checks that what is returned shares no memory, neither with
// what other calls return, nor with an argument.
func TestPromise1NewTotals(t *testing.T) {
	s, log, a, b := impl.Stack{10, 10}, daily(95, 3, 9), totals(0, 0, 4, 10), totals(1, 1, 5, 5)
	c, outs := totals(2, 5), [][]impl.Total{b}
	long := steady(10, 0, 1, 0, 1)[:2] // there is room behind it
	lists := map[string]func() []impl.Total{
		"TotalsFrom":       func() []impl.Total { list, _ := impl.TotalsFrom(s, log); return list },
		"MergeTotals":      func() []impl.Total { list, _ := impl.MergeTotals(a, c); return list },
		"merged with none": func() []impl.Total { list, _ := impl.MergeTotals(a, nil); return list },
		"none merged":      func() []impl.Total { list, _ := impl.MergeTotals(nil, a); return list },
		"merged with room": func() []impl.Total { list, _ := impl.MergeTotals(long, c); return list },
		"merged with same": func() []impl.Total { list, _ := impl.MergeTotals(a, a); return list },
		"ReadTotals":       func() []impl.Total { list, _ := impl.ReadTotals("0 0\n4 10\n"); return list },
	}
	for name, run := range lists {
		one, two := run(), run()
		want := slices.Clone(one)
		spoil(one, total(77, 78))
		if again := run(); len(want) == 0 || !slices.Equal(two, want) || !slices.Equal(again, want) {
			t.Errorf("totals of %s share memory: %v, %v, want %v", name, two, again, want)
		}
	}
	numbers := map[string]func() []int64{
		"SharesOf":    func() []int64 { list, _ := impl.SharesOf(10, 4); return list },
		"CountsByDay": func() []int64 { list, _ := impl.CountsByDay(a); return list },
		"LeaksIn":     func() []int64 { list, _ := impl.LeaksIn(a, outs, 1); return list },
	}
	for name, run := range numbers {
		one, two := run(), run()
		want := slices.Clone(one)
		spoil(one, 77)
		if again := run(); len(want) == 0 || !slices.Equal(two, want) || !slices.Equal(again, want) {
			t.Errorf("lists of %s share memory: %v, %v, want %v", name, two, again, want)
		}
	}
	if !slices.Equal(a, totals(0, 0, 4, 10)) || !slices.Equal(b, totals(1, 1, 5, 5)) || !slices.Equal(c, totals(2, 5)) || !slices.Equal(long[:10], steady(10, 0, 1, 0, 1)) {
		t.Errorf("arguments have become %v, %v, %v and %v", a, b, c, long[:10])
	}
}

// TestPromise1EmptyTotals checks that nil and empty are equivalent.
func TestPromise1EmptyTotals(t *testing.T) {
	m := meter(impl.Stack{10, 10}, 1, 3, 95)
	for _, c := range meterCalls() {
		for _, list := range [][]impl.Total{nil, totals(0, 0, 4, 10)} {
			none := c.run(meterInput{m: m, s: m.Stack, a: list, n: 3})
			empty := c.run(meterInput{m: m, s: m.Stack, log: []impl.Reading{}, pairs: [][2]int64{}, a: append([]impl.Total{}, list...), b: []impl.Total{}, outs: [][]impl.Total{}, n: 3})
			if fmt.Sprint(none) != fmt.Sprint(empty) {
				t.Errorf("%s tells nil from empty: %v and %v", c.name, none, empty)
			}
		}
		none := c.run(meterInput{outs: [][]impl.Total{nil, nil}})
		if empty := c.run(meterInput{outs: [][]impl.Total{{}, {}}}); fmt.Sprint(none) != fmt.Sprint(empty) {
			t.Errorf("%s tells lists of nil from lists of empty: %v and %v", c.name, none, empty)
		}
	}
}

// TestPromise1Compared checks that lists that are compared at the same time, and one
// behind the other, are told the same of, and leave nothing behind that goes on.
func TestPromise1Compared(t *testing.T) {
	before := runtime.NumGoroutine()
	told := make(chan string)
	for range 50 {
		go func() {
			text := ""
			for seed := range uint64(6) {
				a, b := madeTotals(60, 6, 100, seed), madeTotals(60, 6, 100, seed+50)
				at, worst, one := impl.WorstDrift(a, b)
				shift, size, two := impl.BestShift(a, b)
				leaks, three := impl.LeaksIn(a, [][]impl.Total{b, a[:5], b[2:], a[:30], b, a}, 3)
				none, four := impl.LeaksIn(a, [][]impl.Total{nil, b}, 3)
				text += fmt.Sprint(at, worst, one, shift, size, two, leaks, three, none, four, ";")
			}
			told <- text
		}()
	}
	first := <-told
	for range 49 {
		if text := <-told; text != first {
			t.Errorf("told are %q, and %q", first, text)
		}
	}
	checkJoined(t, before)
}
