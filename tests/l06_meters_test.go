package tests

import (
	"fmt"
	"math"
	"slices"
	"strings"
	"testing"

	"loop.example/g01278/impl"
)

// TestMetersExample asserts the example of chapter 6.
func TestMetersExample(t *testing.T) {
	m := meter(mustRead(t, "10:10"), 1, 3, 95)
	if value, rounds, code := impl.ShowsAfter(m, 10); value != 98 || rounds != 0 || code != impl.OK {
		t.Errorf("behind the flow 10: %d, %d, %d", value, rounds, code)
	}
	if value, rounds, code := impl.ShowsAfter(m, 24); value != 3 || rounds != 1 || code != impl.OK {
		t.Errorf("behind the flow 24: %d, %d, %d", value, rounds, code)
	}
	if low, high, code := impl.FlowsFor(m, 0, 98); low != 9 || high != 11 || code != impl.OK {
		t.Errorf("FlowsFor 98: %d, %d, %d", low, high, code)
	}
	pairs := [][2]int64{{3, 2}, {7, 5}}
	if low, high, code := impl.PortionBounds(pairs); low != portion(5, 7) || high != portion(6, 7) || code != impl.OK {
		t.Errorf("PortionBounds: %v, %v, %d", low, high, code)
	}
	if p, code := impl.FindPortion(pairs); p != portion(3, 4) || code != impl.OK {
		t.Errorf("FindPortion: %v, %d", p, code)
	}
	if list, code := impl.SharesOf(10, 4); !slices.Equal(list, []int64{2, 3, 2, 3}) || code != impl.OK {
		t.Errorf("SharesOf: %v, %d", list, code)
	}
	list := totals(0, 0, 4, 10)
	if one, two := mustCount(t, list, 1), mustCount(t, list, 2); one != 2 || two != 5 {
		t.Errorf("CountOn: %d and %d", one, two)
	}
}

func TestMetersConstants(t *testing.T) {
	got := []int64{impl.MaxScale, impl.MaxTotals, impl.MaxSpan, impl.MaxPair}
	if want := []int64{1000, 60, 400, 100000}; !slices.Equal(got, want) {
		t.Errorf("constants %v, want %v", got, want)
	}
}

func TestValidMeter(t *testing.T) {
	ten := impl.Stack{10, 10}
	for _, m := range append(greatMeters(), meter(ten, 1, 3, 95), meter(ten, 1, 1, 0), meter(ten, 1, 1, 99), meter(ten, 1000, 1, 0), meter(ten, 1, 1000, 0),
		meter(ten, 1000, 1000, 99), meter(ten, 999, 1000, 98), meter(ten, 6, 4, 1), meter(impl.Stack{2}, 1, 1, 1), meter(limitStack(), 1, 1, impl.MaxCount-1)) {
		if !impl.ValidMeter(m) {
			t.Errorf("ValidMeter(%v) is false", m)
		}
	}
	for i, m := range append(badMeters(), meter(impl.Stack{2}, 1, 1, 2), meter(limitStack(), 1, 1, impl.MaxCount)) {
		if impl.ValidMeter(m) {
			t.Errorf("the bad meter %d is valid", i)
		}
	}
	for n := int64(-3); n <= impl.MaxScale+3; n++ {
		want := n >= 1 && n <= 1000
		if a, b := impl.ValidMeter(meter(ten, n, 1, 0)), impl.ValidMeter(meter(ten, 1000, n, 99)); a != want || b != want {
			t.Errorf("ValidMeter with Num %d is %v, with Den %v", n, a, b)
		}
		want = n >= 0 && n <= 99
		if got := impl.ValidMeter(meter(ten, 1, 1, n)); got != want {
			t.Errorf("ValidMeter with the Start %d is %v", n, got)
		}
	}
}

func TestValidTotals(t *testing.T) {
	const most, end = impl.MaxCount, impl.MaxLogDay
	good := [][]impl.Total{
		nil, {}, totals(0, 0), totals(end, most), totals(0, most), totals(end, 0), totals(0, 0, 4, 10), totals(3, 5, 4, 5), // counts may stay
		totals(0, 0, 1, 0, 2, 0, 3, 1), totals(0, 0, end, most), totals(0, most, 1, most), totals(end-1, most-1, end, most),
		steady(impl.MaxTotals-1, 0, 1, 0, 1), steady(impl.MaxTotals, 0, 1, 0, 1), steady(impl.MaxTotals, 5, 1000, 7, 0),
	}
	for _, list := range good {
		if !impl.ValidTotals(list) {
			t.Errorf("ValidTotals(%v) is false", list)
		}
	}
	for i, list := range badTotals() {
		if impl.ValidTotals(list) {
			t.Errorf("the bad list %d is valid", i)
		}
	}
	for seed := range uint64(40) {
		list := madeTotals(2+int(seed), 5, 9, seed)
		if !impl.ValidTotals(list) {
			t.Fatalf("ValidTotals(%v) is false", list)
		}
		for i := 1; i < len(list); i++ {
			other := slices.Clone(list)
			other[i].Day = list[i-1].Day
			less := slices.Clone(list)
			less[i].Count = list[i-1].Count - 1
			same := slices.Clone(list[:i+1])
			same[i].Count = list[i-1].Count
			if impl.ValidTotals(other) || impl.ValidTotals(less) || !impl.ValidTotals(same) {
				t.Fatalf("ValidTotals of %v with another total %d: %v, %v, %v", list, i, impl.ValidTotals(other), impl.ValidTotals(less), impl.ValidTotals(same))
			}
		}
	}
}

func TestSameTotals(t *testing.T) {
	tests := []struct {
		a, b []impl.Total
		want bool
	}{
		{nil, nil, true},
		{nil, []impl.Total{}, true},
		{nil, totals(0, 0), false},
		{totals(1, 2, 3, 4), totals(1, 2, 3, 4), true},
		{totals(1, 2, 3, 4), totals(3, 4, 1, 2), false},
		{totals(1, 2, 3, 4), totals(1, 2), false},
		{totals(1, 2, 3, 4), totals(1, 2, 3, 4, 5, 6), false},
		{totals(1, 2, 3, 4), totals(1, 2, 4, 4), false},           // another day
		{totals(1, 2, 3, 4), totals(1, 2, 3, 5), false},           // another count
		{totals(5, -7, 5, 1<<40), totals(5, -7, 5, 1<<40), true},  // they need not be valid
		{totals(5, -7, 5, 1<<40), totals(5, -7, 5, 1<<41), false}, // nor are these
		{make([]impl.Total, 100), make([]impl.Total, 100), true},
		{make([]impl.Total, 100), make([]impl.Total, 101), false},
	}
	for _, x := range tests {
		if got, back := impl.SameTotals(x.a, x.b), impl.SameTotals(x.b, x.a); got != x.want || back != x.want {
			t.Errorf("SameTotals(%v, %v) = %v, and %v", x.a, x.b, got, back)
		}
	}
}

// totalsByTrial turns an odometer on from reading to reading, a count at a time.
func totalsByTrial(s impl.Stack, log []impl.Reading) []impl.Total {
	all := allDigits(s)
	var list []impl.Total
	for i, r := range log {
		if i == 0 {
			list = append(list, total(r.Day, r.Value))
			continue
		}
		o, count := odometer{bases: s, shows: all[log[i-1].Value]}, list[i-1].Count
		for o.shows != all[r.Value] {
			o.up()
			count++
		}
		list = append(list, total(r.Day, count))
	}
	return list
}

func TestTotalsFrom(t *testing.T) {
	const most = impl.MaxCount
	ten, great := impl.Stack{10, 10}, limitStack()
	tests := []struct {
		s    impl.Stack
		log  []impl.Reading
		want []impl.Total
		code int64
	}{
		{ten, nil, nil, impl.OK},
		{ten, []impl.Reading{}, nil, impl.OK},
		{ten, daily(7), totals(0, 7), impl.OK}, // the first value is counted
		{ten, daily(0), totals(0, 0), impl.OK},
		{ten, daily(10, 13, 15), totals(0, 10, 1, 13, 2, 15), impl.OK},
		{ten, daily(95, 3), totals(0, 95, 1, 103), impl.OK}, // it goes round
		{ten, daily(95, 95), totals(0, 95, 1, 95), impl.OK}, // none at all, and no round
		{ten, daily(50, 49), totals(0, 50, 1, 149), impl.OK},
		{ten, daily(99, 0), totals(0, 99, 1, 100), impl.OK},
		{ten, daily(95, 3, 2, 90), totals(0, 95, 1, 103, 2, 202, 3, 290), impl.OK},
		{ten, []impl.Reading{reading(3, 5), reading(100, 5), reading(impl.MaxLogDay, 4)}, totals(3, 5, 100, 5, impl.MaxLogDay, 104), impl.OK},
		{impl.Stack{2}, daily(0, 1, 0, 1), totals(0, 0, 1, 1, 2, 2, 3, 3), impl.OK},
		{great, daily(most - 1), totals(0, most-1), impl.OK},
		{great, daily(most-1, 0), totals(0, most-1, 1, most), impl.OK}, // just MaxCount
		{great, daily(most-1, 1), nil, impl.ErrLimit},                  // one more
		{great, daily(0, most-1, 0), totals(0, 0, 1, most-1, 2, most), impl.OK},
		{great, daily(0, most-1, 0, 0), totals(0, 0, 1, most-1, 2, most, 3, most), impl.OK},
		{great, daily(0, most-1, 0, 1), nil, impl.ErrLimit},
		{great, daily(1, 0), totals(0, 1, 1, most), impl.OK},
		{great, daily(2, 1), nil, impl.ErrLimit},
		{great, daily(2, 1, 5), nil, impl.ErrLimit},
		{great, daily(5, 4, 3, 2, 1, 0), nil, impl.ErrLimit},
	}
	for _, x := range tests {
		if list, code := impl.TotalsFrom(x.s, x.log); !slices.Equal(list, x.want) || code != x.code {
			t.Errorf("TotalsFrom(%v, %v) = %v, %d, want %v, %d", x.s, x.log, list, code, x.want, x.code)
		}
	}
	for _, s := range smallStacks() {
		for seed := range uint64(41) {
			log := madeLog(s, int(seed), seed)
			list, code := impl.TotalsFrom(s, log)
			if want := totalsByTrial(s, log); !slices.Equal(list, want) || code != impl.OK || !impl.ValidTotals(list) {
				t.Fatalf("TotalsFrom(%v, %v) = %v, %d, want %v", s, log, list, code, want)
			}
		}
	}
	for i, bad := range badStacks() {
		for _, log := range [][]impl.Reading{nil, daily(0), daily(0, 1)} {
			list, code := impl.TotalsFrom(bad, log)
			mustCode(t, fmt.Sprint("TotalsFrom of the bad stack ", i), code, impl.ErrInvalid)
			if len(list) > 0 {
				t.Errorf("TotalsFrom of the bad stack %d is %v", i, list)
			}
		}
	}
	for i, bad := range badLogs() {
		list, code := impl.TotalsFrom(ten, bad)
		mustCode(t, fmt.Sprint("TotalsFrom of the bad log ", i), code, impl.ErrInvalid)
		if len(list) > 0 {
			t.Errorf("TotalsFrom of the bad log %d is %v", i, list)
		}
	}
	// A log that is not valid comes ahead of a count that would be too great.
	if _, code := impl.TotalsFrom(great, append(daily(2, 1), reading(1, 0))); code != impl.ErrInvalid {
		t.Errorf("TotalsFrom of a bad log with great counts: code %d", code)
	}
}

// TestTotalsFromFull has a log of just MaxLog readings, with nearly a round from each
// one to the next one.
func TestTotalsFromFull(t *testing.T) {
	s := impl.Stack{100, 100, 100, 100, 100, 2} // 20000000000 values
	var values []int64
	for i := range int64(impl.MaxLog) {
		values = append(values, (20000000000-i)%20000000000)
	}
	list, code := impl.TotalsFrom(s, daily(values...))
	want := steady(impl.MaxLog, 0, 1, 0, 19999999999)
	if !slices.Equal(list, want) || code != impl.OK {
		t.Errorf("TotalsFrom of %v is %v, %d", values, list, code)
	}
}

// mergedByDays merges two lists day by day, and returns the code if it cannot.
func mergedByDays(a, b []impl.Total) ([]impl.Total, int64) {
	at := func(list []impl.Total, day int64) (int64, bool) {
		i := slices.IndexFunc(list, func(x impl.Total) bool { return x.Day == day })
		if i < 0 {
			return 0, false
		}
		return list[i].Count, true
	}
	var list []impl.Total
	code := int64(impl.OK)
	for day := range int64(400) {
		one, inOne := at(a, day)
		two, inTwo := at(b, day)
		if inOne && inTwo && one != two {
			return nil, impl.ErrProof
		}
		if !inOne && !inTwo {
			continue
		}
		count := max(one, two)
		if len(list) > 0 && count < list[len(list)-1].Count {
			code = impl.ErrState
		}
		list = append(list, total(day, count))
	}
	if code == impl.OK && len(list) > 60 {
		code = impl.ErrLimit
	}
	if code != impl.OK {
		return nil, code
	}
	return list, code
}

func TestMergeTotalsByDays(t *testing.T) {
	codes := map[int64]int{}
	for seed := range uint64(900) {
		whole := madeTotals(1+int(seed%90), 1+int64(seed%4), 5, seed)
		var a, b []impl.Total
		bits := seed * 2654435761
		for i, x := range whole {
			in := bits >> (i % 32) & 3
			if in != 1 && len(a) < 60 {
				a = append(a, x)
			}
			if in != 2 && len(b) < 60 {
				b = append(b, x)
			}
		}
		if seed%3 == 0 && len(b) > 0 { // what the second list tells is too much from some day on
			for i := int(seed) % len(b); i < len(b); i++ {
				b[i].Count += 2
			}
		}
		if seed%2 == 0 { // no day is in both
			b = slices.DeleteFunc(b, func(x impl.Total) bool {
				return slices.ContainsFunc(a, func(y impl.Total) bool { return x.Day == y.Day })
			})
		}
		want, code := mergedByDays(a, b)
		codes[code]++
		if list, c := impl.MergeTotals(a, b); !slices.Equal(list, want) || c != code {
			t.Fatalf("MergeTotals(%v, %v) = %v, %d, want %v, %d", a, b, list, c, want, code)
		}
		if list, c := impl.MergeTotals(b, a); !slices.Equal(list, want) || c != code {
			t.Fatalf("MergeTotals(%v, %v) = %v, %d, want %v, %d", b, a, list, c, want, code)
		}
		if code == impl.OK && !impl.ValidTotals(want) {
			t.Fatalf("MergeTotals(%v, %v) = %v, which is not valid", a, b, want)
		}
	}
	if min(codes[impl.OK], codes[impl.ErrProof], codes[impl.ErrState], codes[impl.ErrLimit]) < 10 {
		t.Errorf("codes %v", codes)
	}
}

func TestMergeTotals(t *testing.T) {
	const most, end = impl.MaxCount, impl.MaxLogDay
	ten := totals(0, 0, 4, 10)
	odd, even := steady(30, 1, 2, 1, 2), steady(30, 0, 2, 0, 2)
	tests := []struct {
		a, b, want []impl.Total
		code       int64
	}{
		{nil, nil, nil, impl.OK},
		{ten, nil, ten, impl.OK},
		{nil, ten, ten, impl.OK},
		{ten, ten, ten, impl.OK}, // all days with the same count
		{ten, totals(2, 5), totals(0, 0, 2, 5, 4, 10), impl.OK},
		{totals(2, 5), ten, totals(0, 0, 2, 5, 4, 10), impl.OK},
		{ten, totals(9, 10), totals(0, 0, 4, 10, 9, 10), impl.OK},
		{ten, totals(4, 10, 9, 12), totals(0, 0, 4, 10, 9, 12), impl.OK}, // one day of both
		{totals(4, 10, 9, 12), ten, totals(0, 0, 4, 10, 9, 12), impl.OK},
		{ten, totals(2, 0, 3, 10), totals(0, 0, 2, 0, 3, 10, 4, 10), impl.OK}, // the same counts on other days
		{ten, totals(0, 1), nil, impl.ErrProof},
		{ten, totals(0, 0, 4, 11), nil, impl.ErrProof},
		{ten, totals(4, 9), nil, impl.ErrProof},
		{totals(4, 9), ten, nil, impl.ErrProof},
		{ten, totals(2, 11), nil, impl.ErrState},
		{totals(2, 11), ten, nil, impl.ErrState},
		{ten, totals(5, 9), nil, impl.ErrState},
		{totals(1, 5), totals(2, 4), nil, impl.ErrState},
		{totals(2, 4), totals(1, 5), nil, impl.ErrState},
		{totals(0, 5), totals(1, 5), totals(0, 5, 1, 5), impl.OK},
		{ten, totals(2, 11, 4, 12), nil, impl.ErrProof}, // a proof ahead of a state, though on a later day
		{totals(2, 11, 4, 12), ten, nil, impl.ErrProof},
		{totals(0, 0, 1, 50, 2, 60, 9, 70), totals(3, 5, 9, 71), nil, impl.ErrProof},
		{odd, even, steady(60, 0, 1, 0, 1), impl.OK}, // just MaxTotals
		{even, odd, steady(60, 0, 1, 0, 1), impl.OK},
		// One more; a day of both is one.
		{odd, append(slices.Clone(even), total(70, 70)), nil, impl.ErrLimit},
		{append(slices.Clone(odd), total(70, 70)), append(slices.Clone(even), total(70, 70)), nil, impl.ErrLimit},
		{odd, append(slices.Clone(even), total(59, 59)), steady(60, 0, 1, 0, 1), impl.OK},
		{steady(60, 0, 1, 0, 1), steady(60, 0, 1, 0, 1), steady(60, 0, 1, 0, 1), impl.OK},
		{steady(60, 0, 1, 0, 1), totals(60, 60), nil, impl.ErrLimit},
		{steady(60, 0, 1, 0, 1), steady(60, 60, 1, 60, 1), nil, impl.ErrLimit},
		// A state ahead of a limit, and a proof ahead of both.
		{steady(60, 0, 1, 0, 1), totals(60, 50), nil, impl.ErrState},
		{totals(60, 50), steady(60, 0, 1, 0, 1), nil, impl.ErrState},
		{steady(60, 0, 1, 0, 1), totals(59, 60, 70, 70), nil, impl.ErrProof},
		{steady(60, 0, 1, 0, 1), totals(59, 60, 70, 10), nil, impl.ErrInvalid},
		// Great counts, and the last days.
		{totals(0, 0, end, most), totals(1, most), totals(0, 0, 1, most, end, most), impl.OK},
		{totals(0, 0, end, most), totals(end, most-1), nil, impl.ErrProof},
		{totals(end-1, most), totals(end, most-1), nil, impl.ErrState},
		{totals(end-1, most-1), totals(0, 0, end, most), totals(0, 0, end-1, most-1, end, most), impl.OK},
		{totals(0, 0), totals(0, 0), totals(0, 0), impl.OK},
		{totals(0, 0), totals(0, most), nil, impl.ErrProof},
		// Several days by turns, in one another, and one behind the other.
		{totals(3, 7, 5, 7, 7, 7), totals(4, 7, 6, 7, 8, 7), totals(3, 7, 4, 7, 5, 7, 6, 7, 7, 7, 8, 7), impl.OK},
		{totals(3, 7, 5, 7, 7, 7), totals(4, 7, 6, 8, 8, 8), nil, impl.ErrState},
		{totals(3, 7, 5, 8, 7, 9, 8, 9), totals(5, 8), totals(3, 7, 5, 8, 7, 9, 8, 9), impl.OK},
		{totals(1, 1, 2, 2, 3, 3), totals(4, 4, 5, 5, 6, 6), totals(1, 1, 2, 2, 3, 3, 4, 4, 5, 5, 6, 6), impl.OK},
		{totals(4, 4, 5, 5, 6, 6), totals(1, 1, 2, 2, 3, 3), totals(1, 1, 2, 2, 3, 3, 4, 4, 5, 5, 6, 6), impl.OK},
		{totals(4, 4, 5, 5, 6, 6), totals(1, 1, 2, 2, 3, 30), nil, impl.ErrState},
		{totals(100, 10, 1000, 20), totals(9, 9, 200, 15), totals(9, 9, 100, 10, 200, 15, 1000, 20), impl.OK},
	}
	for _, x := range tests {
		if list, code := impl.MergeTotals(x.a, x.b); !slices.Equal(list, x.want) || code != x.code {
			t.Errorf("MergeTotals(%v, %v) = %v, %d, want %v, %d", x.a, x.b, list, code, x.want, x.code)
		}
	}
	for i, bad := range badTotals() {
		for _, other := range [][]impl.Total{nil, ten, steady(60, 0, 1, 0, 1), bad} {
			for _, both := range [][2][]impl.Total{{bad, other}, {other, bad}} {
				list, code := impl.MergeTotals(both[0], both[1])
				mustCode(t, fmt.Sprint("MergeTotals of the bad list ", i), code, impl.ErrInvalid)
				if len(list) > 0 {
					t.Errorf("MergeTotals of the bad list %d is %v", i, list)
				}
			}
		}
	}
}

// leaksByWords returns all days of some common ones on which more goes in than comes
// out.
func leaksByWords(in []impl.Total, outs [][]impl.Total, within int64, days []int64) []int64 {
	var list []int64
	for _, day := range days {
		if !slices.Contains(days, day+1) {
			continue
		}
		grows := func(list []impl.Total) int64 {
			count, _ := countByWords(list, day)
			next, _ := countByWords(list, day+1)
			return next - count
		}
		out := within
		for _, list := range outs {
			out += grows(list)
		}
		if grows(in) > out {
			list = append(list, day)
		}
	}
	return list
}

func TestLeaksInByWords(t *testing.T) {
	some, all := 0, 0
	for seed := range uint64(500) {
		in := madeTotals(int(seed%12), 4, []int64{3, 12, 40}[seed%3], seed)
		lists := [][]impl.Total{in}
		var outs [][]impl.Total
		for i := range seed%6 + 1 {
			outs = append(outs, madeTotals(int(seed%7)+5, 6, []int64{2, 5, 9}[seed/3%3], seed*7+i))
			lists = append(lists, outs[i])
		}
		days := commonByWords(80, lists...)
		for within := range int64(6) {
			want := leaksByWords(in, outs, within, days)
			if list, code := impl.LeaksIn(in, outs, within); !slices.Equal(list, want) || code != impl.OK {
				t.Fatalf("LeaksIn(%v, %v, %d) = %v, %d, want %v", in, outs, within, list, code, want)
			}
			if len(want) > 0 && len(want) < len(days)-1 {
				some++
			} else if len(want) > 0 {
				all++
			}
		}
	}
	if some < 300 || all < 20 {
		t.Errorf("%d lists leak on some days, and %d on all", some, all)
	}
}

func TestLeaksIn(t *testing.T) {
	const most, end = impl.MaxCount, impl.MaxLogDay
	ten := totals(0, 0, 4, 10) // 2, 3, 2 and 3
	out := totals(1, 1, 5, 5)
	still := totals(0, 7, end, 7)
	tests := []struct {
		in     []impl.Total
		outs   [][]impl.Total
		within int64
		want   []int64
	}{
		{ten, [][]impl.Total{out}, 1, []int64{1, 3}},
		{ten, [][]impl.Total{out}, 0, []int64{1, 2, 3}},
		{ten, [][]impl.Total{out}, 2, nil}, // just within
		{ten, [][]impl.Total{still}, 0, []int64{0, 1, 2, 3}},
		{ten, [][]impl.Total{still}, 1, []int64{0, 1, 2, 3}},
		{ten, [][]impl.Total{still}, 2, []int64{1, 3}}, // just within, and one more
		{ten, [][]impl.Total{still}, 3, nil},
		{ten, [][]impl.Total{still}, most, nil},
		{ten, [][]impl.Total{ten}, 0, nil}, // as much comes out as goes in
		{still, [][]impl.Total{totals(0, 0, 4, 10)}, 0, nil},
		{ten, [][]impl.Total{still, out}, 1, []int64{1, 3}}, // several outs
		{ten, [][]impl.Total{out, still}, 1, []int64{1, 3}},
		{ten, [][]impl.Total{out, out}, 0, []int64{1, 3}},
		{ten, [][]impl.Total{out, out}, 1, nil},
		{ten, [][]impl.Total{out, out, out}, 0, nil},
		{totals(0, 0, 4, 400), slices.Repeat([][]impl.Total{totals(0, 0, 4, 60)}, 6), 9, []int64{0, 1, 2, 3}}, // 6 outs, 15 each
		{totals(0, 0, 4, 400), slices.Repeat([][]impl.Total{totals(0, 0, 4, 60)}, 6), 10, nil},
		{ten, [][]impl.Total{totals(0, 0, 2, 9)}, 0, nil}, // it comes out at the beginning, and then nothing is known
		{ten, [][]impl.Total{totals(2, 5, 9, 5)}, 0, []int64{2, 3}},
		{ten, [][]impl.Total{totals(3, 5, 9, 5)}, 0, []int64{3}}, // one day with a next one
		{ten, [][]impl.Total{totals(4, 5, 9, 5)}, 0, nil},        // one common day, but none behind it
		{ten, [][]impl.Total{totals(3, 5)}, 0, nil},
		{ten, [][]impl.Total{totals(5, 5, 9, 5)}, 0, nil}, // no common day
		{ten, [][]impl.Total{nil}, 0, nil},
		{nil, [][]impl.Total{ten}, 0, nil},
		{nil, [][]impl.Total{nil}, 0, nil},
		{ten, [][]impl.Total{still, totals(0, 0, 2, 0), totals(2, 0, 9, 0)}, 0, nil}, // common are two each, but not all
		{ten, [][]impl.Total{still, totals(0, 0, 3, 0), totals(2, 0, 9, 0)}, 0, []int64{2}},
		{totals(0, 0, 3, 9, 4, 9, 5, 12), [][]impl.Total{totals(0, 0, 2, 0, 3, 9, 5, 9)}, 0, []int64{0, 1, 4}}, // what is late is no leak on the day it comes out
		{totals(0, 0, 1, most), [][]impl.Total{totals(0, 0, 1, 0)}, most - 1, []int64{0}},
		{totals(0, 0, 1, most), [][]impl.Total{totals(0, 0, 1, 0)}, most, nil},
		{totals(0, 0, 1, most), [][]impl.Total{totals(0, 0, 1, 1)}, most - 1, nil},
		{totals(0, 0, 1, most), [][]impl.Total{totals(0, 0, 1, most)}, most, nil},
		{totals(0, 0, 1, most), slices.Repeat([][]impl.Total{totals(0, 0, 1, most)}, 6), most, nil},
		{totals(0, 0, 1, most), slices.Repeat([][]impl.Total{totals(0, most, 1, most)}, 6), most - 1, []int64{0}},
		{totals(end-1, 0, end, 5), [][]impl.Total{totals(end-1, 0, end, 4)}, 0, []int64{end - 1}},
		{totals(0, 0, 399, 1), [][]impl.Total{still}, 0, []int64{398}}, // just MaxSpan days
		{totals(0, 0, end, 1), [][]impl.Total{totals(end-399, 0, end, 0)}, 0, []int64{end - 1}},
		{totals(0, 0, 1, 9, end, 9), [][]impl.Total{still, totals(0, 0, 399, 0)}, 8, []int64{0}},
	}
	for _, x := range tests {
		if list, code := impl.LeaksIn(x.in, x.outs, x.within); !slices.Equal(list, x.want) || code != impl.OK {
			t.Errorf("LeaksIn(%v, %v, %d) = %v, %d, want %v", x.in, x.outs, x.within, list, code, x.want)
		}
	}
}

// TestLeaksInErrors checks what is refused, and in which order.
func TestLeaksInErrors(t *testing.T) {
	const most, end = impl.MaxCount, impl.MaxLogDay
	ten, long, still := totals(0, 0, 4, 10), totals(0, 0, 400, 10), totals(0, 7, end, 7)
	outs := func(n int, list []impl.Total) [][]impl.Total { return slices.Repeat([][]impl.Total{list}, n) }
	tests := []struct {
		name   string
		in     []impl.Total
		outs   [][]impl.Total
		within int64
		want   int64
	}{
		{"no outs", ten, nil, 0, impl.ErrRange},
		{"an empty list of outs", ten, [][]impl.Total{}, 0, impl.ErrRange},
		{"1 out", ten, outs(1, ten), 0, impl.OK},
		{"6 outs", ten, outs(6, ten), 0, impl.OK},
		{"7 outs", ten, outs(7, ten), 0, impl.ErrRange},
		{"7 outs without totals", ten, outs(7, nil), 0, impl.ErrRange},
		{"many outs", ten, outs(100000, nil), 0, impl.ErrRange},
		{"within of -1", ten, outs(1, ten), -1, impl.ErrRange},
		{"within of just MaxCount", ten, outs(1, ten), most, impl.OK},
		{"within of one more", ten, outs(1, ten), most + 1, impl.ErrRange},
		{"the least within", ten, outs(1, ten), math.MinInt64, impl.ErrRange},
		{"the greatest within", ten, outs(1, ten), math.MaxInt64, impl.ErrRange},
		{"no common days", ten, outs(1, totals(7, 0)), 0, impl.OK},
		{"just MaxSpan days", totals(0, 0, 399, 10), outs(2, long), 0, impl.OK},
		{"just MaxSpan days in the outs", long, [][]impl.Total{still, totals(1, 0, end, 5)}, 0, impl.OK},
		{"one day more", long, outs(1, long), 0, impl.ErrLimit},
		{"one day more in all", still, outs(6, long), 0, impl.ErrLimit},
		{"all days", still, outs(6, still), 0, impl.ErrLimit},
		{"days of a later one", totals(100, 0, 600, 10), outs(1, totals(200, 0, end, 0)), 0, impl.ErrLimit},
		{"days of a later one, as many as may be", totals(100, 0, 600, 10), outs(1, totals(201, 0, end, 0)), 0, impl.OK},
		{"too many days without an out", long, nil, 0, impl.ErrRange},
		{"too many days with 7 outs", long, outs(7, long), 0, impl.ErrRange},
		{"too many days with a bad within", long, outs(1, long), -1, impl.ErrRange},
		{"too many days with a great within", long, outs(1, long), most + 1, impl.ErrRange},
	}
	for _, x := range tests {
		list, code := impl.LeaksIn(x.in, x.outs, x.within)
		mustCode(t, "LeaksIn with "+x.name, code, x.want)
		if len(list) > 0 && x.want != impl.OK {
			t.Errorf("LeaksIn with %s is %v", x.name, list)
		}
		if len(x.outs) > 1000 {
			continue
		}
		for i, bad := range badTotals() {
			if list, code := impl.LeaksIn(bad, x.outs, x.within); len(list) > 0 || code != impl.ErrInvalid {
				t.Errorf("LeaksIn with %s into the bad list %d is %v, %d", x.name, i, list, code)
			}
			for at := range len(x.outs) + 1 {
				if list, code := impl.LeaksIn(x.in, slices.Insert(slices.Clone(x.outs), at, bad), x.within); len(list) > 0 || code != impl.ErrInvalid {
					t.Errorf("LeaksIn with %s out of the bad list %d is %v, %d", x.name, i, list, code)
				}
			}
		}
	}
}

func TestTotalsTexts(t *testing.T) {
	tests := []struct {
		list []impl.Total
		text string
	}{
		{nil, ""},
		{totals(0, 0), "0 0\n"},
		{totals(0, 0, 4, 10), "0 0\n4 10\n"},
		{totals(7, 5, 10, 5, 100, 1000), "7 5\n10 5\n100 1000\n"},
		{totals(100000, 1000000000000), "100000 1000000000000\n"},
		{totals(99999, 999999999999), "99999 999999999999\n"},
	}
	for _, x := range tests {
		if text := impl.TotalsText(x.list); text != x.text {
			t.Errorf("TotalsText(%v) = %q, want %q", x.list, text, x.text)
		}
		if list, code := impl.ReadTotals(x.text); !slices.Equal(list, x.list) || code != impl.OK {
			t.Errorf("ReadTotals(%q) = %v, %d, want %v", x.text, list, code, x.list)
		}
	}
	for n := range impl.MaxTotals + 1 {
		list := madeTotals(n, 1000, 10000000000, uint64(n))
		if again, code := impl.ReadTotals(impl.TotalsText(list)); !impl.SameTotals(again, list) || code != impl.OK {
			t.Errorf("%v is written %q, and read %v, %d", list, impl.TotalsText(list), again, code)
		}
	}
	for i, bad := range badTotals() {
		if text := impl.TotalsText(bad); text != "" {
			t.Errorf("the bad list %d has the text %q", i, short(text))
		}
	}
}

// TestTotalsTextsAll reads all short texts of the bytes that the texts of totals have,
// and some others.
func TestTotalsTextsAll(t *testing.T) {
	known := map[string][]impl.Total{"": nil}
	for day := range int64(1000) {
		for count := range int64(1000) {
			if day >= 100 && count >= 10 || day >= 10 && count >= 100 { // these texts are longer
				break
			}
			known[fmt.Sprintf("%d %d\n", day, count)] = totals(day, count)
		}
	}
	texts, read := []string{""}, 0
	for range 7 {
		var longer []string
		for _, text := range texts {
			want, ok := known[text]
			list, code := impl.ReadTotals(text)
			if !slices.Equal(list, want) || ok != (code == impl.OK) || !ok && code != impl.ErrSyntax {
				t.Fatalf("ReadTotals(%q) = %v, %d", text, list, code)
			}
			if ok {
				read++
			}
			for _, letter := range "012 \n-" {
				longer = append(longer, text+string(letter))
			}
		}
		texts = longer
	}
	// The day and the count have 4 bytes at most; of these there are 3 with one byte, 6
	// with two, and 18 with three.
	if want := 1 + 3*(3+6+18) + 6*(3+6) + 18*3; read != want {
		t.Errorf("%d texts are read, want %d", read, want)
	}
}

func TestTotalsTextsThatAreNone(t *testing.T) {
	lines := func(n int) string {
		var text strings.Builder
		for i := range n {
			text.WriteString(fmt.Sprint(i, " 0\n"))
		}
		return text.String()
	}
	if list, code := impl.ReadTotals(lines(impl.MaxTotals)); len(list) != impl.MaxTotals || code != impl.OK {
		t.Errorf("%d lines are read %v, %d", impl.MaxTotals, list, code)
	}
	texts := []string{
		"\n", " ", "0", "0 5", "0 5\n\n", "\n0 5\n", "0 5\n1 6", "0 5 \n", " 0 5\n", "0  5\n", "0\t5\n", "0 5\r\n", "0 5\n \n", "0 5\n\n1 6\n",
		"0\n", "0 \n", " 5\n", "5\n", "05\n", "0:5\n", "0,5\n", "0 5 1\n", "0 5 1 6\n", "0 5,1 6\n", "0 5;1 6\n",
		"00 5\n", "01 5\n", "0 05\n", "0 00\n", "1 5\n02 6\n", "1 5\n2 06\n", "+1 5\n", "1 +5\n", "-1 5\n", "-0 5\n", "0 -5\n", "0 -0\n",
		"1.0 5\n", "0 5.0\n", "0x1 5\n", "0 0x5\n", "1_0 5\n", "0 1_0\n", "1e1 5\n", "0 1e1\n",
		"100001 5\n", "0 1000000000001\n", "4294967296 5\n", "99999999999999999999 5\n", "0 99999999999999999999\n", "18446744073709551616 5\n", "0 18446744073709551616\n", "0 18446744073709551621\n",
		"x 5\n", "0 x\n", "x\n", "0 ?\n", "٣ 5\n", "0 ٣\n", "0 5\x00\n", "0 5\n\x00", "\xff", "0 \xff\n", "0 5\n\xff",
		"1 5\n0 6\n", "1 5\n1 6\n", "1 5\n1 5\n", "0 5\n2 6\n1 7\n", "0 5\nx\n1 6\n", "0 5\n1 4\n", "0 5\n1 6\n2 5\n",
		lines(impl.MaxTotals + 1), lines(impl.MaxTotals) + "x", lines(impl.MaxTotals) + "\n", lines(impl.MaxTotals) + "60 0", lines(200),
	}
	for _, text := range texts {
		if list, code := impl.ReadTotals(text); len(list) != 0 || code != impl.ErrSyntax {
			t.Errorf("ReadTotals(%q) = %v, %d", short(text), list, code)
		}
	}
	for _, part := range []string{"1", "0", "\n", " ", "0 5\n", "0 ", "\x00"} {
		long := strings.Repeat(part, 1000000/len(part))
		for _, text := range []string{long, "0 5\n" + long, "0 " + long + "\n", long + " 5\n", lines(59) + long} {
			if list, code := impl.ReadTotals(text); len(list) != 0 || code != impl.ErrSyntax {
				t.Errorf("ReadTotals of many %q gives %v, %d", part, list, code)
			}
		}
	}
}
