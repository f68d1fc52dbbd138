package tests

import (
	"fmt"
	"math"
	"slices"
	"testing"

	"loop.example/g01278/impl"
)

// sumOf returns the sum of a list.
func sumOf(list []int64) int64 {
	sum := int64(0)
	for _, n := range list {
		sum += n
	}
	return sum
}

// sharesByTrial deals a count out by one at a time: the next one is for the first day
// up to which there is not yet as much as there may be.
func sharesByTrial(count, days int64) []int64 {
	list := make([]int64, days)
	day := int64(0)
	for dealt := range count {
		for (dealt+1)*days > count*(day+1) {
			day++
		}
		list[day]++
	}
	return list
}

// TestPromise15Shares deals out all small counts among a few days.
func TestPromise15Shares(t *testing.T) {
	for days := int64(1); days <= 25; days++ {
		for count := range int64(120) {
			want := sharesByTrial(count, days)
			if list, code := impl.SharesOf(count, days); !slices.Equal(list, want) || code != impl.OK {
				t.Fatalf("SharesOf(%d, %d) = %v, %d, want %v", count, days, list, code, want)
			}
		}
	}
}

// TestPromise15SharesByHand has counts of which the shares are told here.
func TestPromise15SharesByHand(t *testing.T) {
	const most = impl.MaxCount
	tests := []struct {
		count, days int64
		want        []int64
	}{
		{10, 4, []int64{2, 3, 2, 3}},
		{12, 4, []int64{3, 3, 3, 3}},
		{0, 1, []int64{0}},
		{0, 3, []int64{0, 0, 0}}, // shares of 0
		{7, 1, []int64{7}},       // one day
		{most, 1, []int64{most}},
		{1, 5, []int64{0, 0, 0, 0, 1}}, // the last day has it
		{4, 5, []int64{0, 1, 1, 1, 1}},
		{6, 5, []int64{1, 1, 1, 1, 2}},
		{2, 3, []int64{0, 1, 1}},
		{most, 2, []int64{most / 2, most / 2}},
		{most, 3, []int64{333333333333, 333333333333, 333333333334}},
		{most - 1, 3, []int64{333333333333, 333333333333, 333333333333}},
		{most - 1, 2, []int64{499999999999, 500000000000}},
		{400, 400, slices.Repeat([]int64{1}, 400)}, // just MaxSpan
		{0, 400, make([]int64, 400)},
		{most, 400, slices.Repeat([]int64{most / 400}, 400)},
		{200, 400, slices.Repeat([]int64{0, 1}, 200)},
		{1, 400, append(make([]int64, 399), 1)},
		{399, 400, append([]int64{0}, slices.Repeat([]int64{1}, 399)...)},
	}
	for _, x := range tests {
		if list, code := impl.SharesOf(x.count, x.days); !slices.Equal(list, x.want) || code != impl.OK {
			t.Errorf("SharesOf(%d, %d) = %v, %d, want %v", x.count, x.days, list, code, x.want)
		}
	}
}

// TestPromise15Sums checks that shares sum to the count, and differ by 1 at most.
func TestPromise15Sums(t *testing.T) {
	for i := range int64(60) {
		count := i * i * i * 15485863 * 31 % (impl.MaxCount + 1)
		for _, days := range []int64{1, 2, 3, 7, 30, 31, 99, 365, 366, 399, 400} {
			list, code := impl.SharesOf(count, days)
			if int64(len(list)) != days || sumOf(list) != count || slices.Max(list)-slices.Min(list) > 1 || code != impl.OK {
				t.Fatalf("SharesOf(%d, %d) = %v, %d", count, days, list, code)
			}
			// Totals at both ends part the count in the same way.
			byDay, code := impl.CountsByDay(totals(i, 0, i+days, count))
			if !slices.Equal(byDay, list) || code != impl.OK {
				t.Fatalf("CountsByDay of %d in %d days is %v, %d, but the shares are %v", count, days, byDay, code, list)
			}
		}
	}
}

// TestPromise15ShareErrors checks which shares are refused.
func TestPromise15ShareErrors(t *testing.T) {
	refused := func(count, days int64) {
		t.Helper()
		list, code := impl.SharesOf(count, days)
		mustCode(t, fmt.Sprint("SharesOf ", count, " and ", days), code, impl.ErrRange)
		if len(list) > 0 {
			t.Errorf("SharesOf(%d, %d) is %v", count, days, list)
		}
	}
	for _, bad := range badNumbers(impl.MaxCount) {
		for _, days := range []int64{1, 4, impl.MaxSpan, 0, impl.MaxSpan + 1} {
			refused(bad, days)
		}
	}
	for _, bad := range append(badNumbers(impl.MaxSpan), 0) {
		for _, count := range []int64{0, 10, impl.MaxCount, -1} {
			refused(count, bad)
		}
	}
}

// TestPromise15CountOn checks CountOn on all days against the document's words.
func TestPromise15CountOn(t *testing.T) {
	lists := [][]impl.Total{nil, totals(5, 9), totals(0, 0, 4, 10)}
	for seed := range uint64(80) {
		lists = append(lists, madeTotals(int(seed%9), 6, []int64{1, 3, 20, 1000}[seed%4], seed))
	}
	rounded, between := 0, 0
	for _, list := range lists {
		for day := range int64(70) {
			want, ok := countByWords(list, day)
			code := int64(impl.OK)
			if !ok {
				code = impl.ErrNotFound
			}
			if count, c := impl.CountOn(list, day); count != want || c != code {
				t.Fatalf("CountOn(%v, %d) = %d, %d, want %d, %d", list, day, count, c, want, code)
			}
			if ok && !slices.ContainsFunc(list, func(x impl.Total) bool { return x.Day == day }) {
				between++
				next, _ := countByWords(list, day+1)
				before, _ := countByWords(list, day-1)
				if next-want != want-before {
					rounded++
				}
			}
		}
	}
	if between < 500 || rounded < 100 {
		t.Errorf("%d days are between two totals, and %d counts are rounded", between, rounded)
	}
}

// TestPromise15CountOnByHand has days whose counts are told here.
func TestPromise15CountOnByHand(t *testing.T) {
	const most, end, lost = impl.MaxCount, impl.MaxLogDay, int64(impl.ErrNotFound)
	list := totals(2, 1, 4, 10, 7, 10, 17, 14)
	whole := totals(0, 0, end, most)
	tests := []struct {
		list      []impl.Total
		day, want int64
		code      int64
	}{
		{totals(0, 0, 4, 10), 0, 0, impl.OK},
		{totals(0, 0, 4, 10), 1, 2, impl.OK},
		{totals(0, 0, 4, 10), 2, 5, impl.OK},
		{totals(0, 0, 4, 10), 3, 7, impl.OK},
		{totals(0, 0, 4, 10), 4, 10, impl.OK},
		{totals(0, 0, 4, 10), 5, 0, lost},
		{list, 2, 1, impl.OK}, // at a total
		{list, 4, 10, impl.OK},
		{list, 7, 10, impl.OK},
		{list, 17, 14, impl.OK}, // the last one
		{list, 3, 5, impl.OK},   // 4.5 more, rounded down
		{list, 5, 10, impl.OK},  // nothing more
		{list, 8, 10, impl.OK},  // 0.4 more
		{list, 9, 10, impl.OK},
		{list, 10, 11, impl.OK},
		{list, 16, 13, impl.OK},
		{list, 1, 0, lost}, // before the first one
		{list, 0, 0, lost},
		{list, 18, 0, lost}, // behind the last one
		{list, end, 0, lost},
		{nil, 0, 0, lost}, // no totals
		{nil, end, 0, lost},
		{totals(5, 7), 5, 7, impl.OK}, // one
		{totals(5, 7), 4, 0, lost},
		{totals(5, 7), 6, 0, lost},
		{totals(0, 7), 0, 7, impl.OK},
		{totals(end, 7), end, 7, impl.OK},
		{whole, 0, 0, impl.OK},
		{whole, end, most, impl.OK},
		{whole, 1, most / end, impl.OK},
		{whole, end - 1, most - most/end, impl.OK},
		{totals(0, 1, end, most), end - 1, 999989999999 + 1, impl.OK},
		{totals(0, 1, end, most), 1, 9999999 + 1, impl.OK},
		{totals(1, 3, 4, most), 2, 333333333332 + 3, impl.OK},
		{totals(1, most, 4, most), 2, most, impl.OK},
		{steady(impl.MaxTotals, 0, 10, 0, 5), 585, 292, impl.OK},
		{steady(impl.MaxTotals, 0, 10, 0, 5), 590, 295, impl.OK},
		{steady(impl.MaxTotals, 0, 10, 0, 5), 591, 0, lost},
	}
	for _, x := range tests {
		if count, code := impl.CountOn(x.list, x.day); count != x.want || code != x.code {
			t.Errorf("CountOn(%v, %d) = %d, %d, want %d, %d", x.list, x.day, count, code, x.want, x.code)
		}
	}
	for _, bad := range badNumbers(end) {
		for _, good := range [][]impl.Total{nil, totals(5, 7), list, whole} { // a range ahead of what is not found
			count, code := impl.CountOn(good, bad)
			mustCode(t, fmt.Sprint("CountOn of the day ", bad), code, impl.ErrRange)
			if count != 0 {
				t.Errorf("CountOn of the day %d is %d", bad, count)
			}
		}
	}
	for i, bad := range badTotals() {
		for _, day := range []int64{0, 1, 3, end, end + 1, -1, math.MinInt64} {
			count, code := impl.CountOn(bad, day)
			mustCode(t, fmt.Sprint("CountOn of the bad list ", i), code, impl.ErrInvalid)
			if count != 0 {
				t.Errorf("CountOn of the bad list %d is %d", i, count)
			}
		}
	}
}

// TestPromise15Days checks that counts by day are those of CountOn, and sum to what has
// been counted.
func TestPromise15Days(t *testing.T) {
	lists := [][]impl.Total{totals(5, 9), totals(0, 0, 4, 10), steady(impl.MaxTotals, 7, 1, 3, 11), steady(impl.MaxTotals, 0, 6, 0, 1)}
	for seed := range uint64(120) {
		lists = append(lists, madeTotals(1+int(seed%60), 1+int64(seed%7), []int64{1, 3, 20, 1000000000}[seed%4], seed))
	}
	for _, list := range lists {
		first, last := list[0], list[len(list)-1]
		var want []int64
		for day := first.Day; day < last.Day; day++ {
			count, _ := countByWords(list, day)
			next, _ := countByWords(list, day+1)
			want = append(want, next-count)
		}
		byDay, code := impl.CountsByDay(list)
		if !slices.Equal(byDay, want) || code != impl.OK || sumOf(byDay) != last.Count-first.Count {
			t.Fatalf("CountsByDay(%v) = %v, %d, want %v", list, byDay, code, want)
		}
		for i, count := range byDay {
			if got := mustCount(t, list, first.Day+int64(i)+1) - mustCount(t, list, first.Day+int64(i)); got != count {
				t.Fatalf("CountsByDay(%v) has %d on the day %d, but CountOn grows by %d", list, count, first.Day+int64(i), got)
			}
		}
	}
}

// TestPromise15DaysByHand has totals whose counts by day are told here.
func TestPromise15DaysByHand(t *testing.T) {
	const most, end = impl.MaxCount, impl.MaxLogDay
	tests := []struct {
		list []impl.Total
		want []int64
		code int64
	}{
		{totals(0, 0, 4, 10), []int64{2, 3, 2, 3}, impl.OK},
		{totals(2, 1, 4, 10, 7, 10), []int64{4, 5, 0, 0, 0}, impl.OK},
		{totals(2, 5, 4, 5), []int64{0, 0}, impl.OK},
		{totals(5, 9, 6, 12), []int64{3}, impl.OK},
		{totals(5, 9), nil, impl.OK}, // one total leads to no day
		{totals(end, most), nil, impl.OK},
		{nil, nil, impl.ErrNotFound},
		{[]impl.Total{}, nil, impl.ErrNotFound},
		{totals(0, 0, 400, 400), slices.Repeat([]int64{1}, 400), impl.OK}, // just MaxSpan days
		{totals(0, 0, 401, 401), nil, impl.ErrLimit},                      // one more
		{totals(7, 0, 407, 200), slices.Repeat([]int64{0, 1}, 200), impl.OK},
		{totals(7, 0, 8, 1, 407, 400), slices.Repeat([]int64{1}, 400), impl.OK},
		{totals(7, 0, 8, 1, 408, 401), nil, impl.ErrLimit},
		{totals(end-400, most, end, most), make([]int64, 400), impl.OK},
		{totals(end-401, most, end, most), nil, impl.ErrLimit},
		{totals(end-1, 0, end, most), []int64{most}, impl.OK},
		{totals(0, 0, end, most), nil, impl.ErrLimit},
		{totals(0, 0, 3, most), []int64{333333333333, 333333333333, 333333333334}, impl.OK},
	}
	for _, x := range tests {
		if list, code := impl.CountsByDay(x.list); !slices.Equal(list, x.want) || code != x.code {
			t.Errorf("CountsByDay(%v) = %v, %d, want %v, %d", x.list, list, code, x.want, x.code)
		}
	}
	for i, bad := range badTotals() {
		list, code := impl.CountsByDay(bad)
		mustCode(t, fmt.Sprint("CountsByDay of the bad list ", i), code, impl.ErrInvalid)
		if len(list) > 0 {
			t.Errorf("CountsByDay of the bad list %d is %v", i, list)
		}
	}
}
