package tests

import (
	"fmt"
	"math"
	"slices"
	"testing"

	"loop.example/g01278/impl"
)

// worstByWords returns the first one of some common days with the greatest size of the
// drift, the drift, and on how many days it has this size.
func worstByWords(a, b []impl.Total, days []int64) (int64, int64, int) {
	at, worst, often := int64(0), int64(0), 0
	for _, day := range days {
		drift := driftByWords(a, b, day)
		if often > 0 && sizeOfDrift(drift) == sizeOfDrift(worst) {
			often++
		} else if often == 0 || sizeOfDrift(drift) > sizeOfDrift(worst) {
			at, worst, often = day, drift, 1
		}
	}
	return at, worst, often
}

// greatestSize returns the greatest size of the drift on some days, if a number is
// added to all counts of the second list.
func greatestSize(a, b []impl.Total, days []int64, shift int64) int64 {
	greatest := int64(0)
	for _, day := range days {
		greatest = max(greatest, sizeOfDrift(driftByWords(a, b, day)-shift))
	}
	return greatest
}

// shiftByTrial tries all shifts of -most to most, and returns the one that makes the
// greatest size least, the least one of several, and this size, and how many these are.
func shiftByTrial(a, b []impl.Total, days []int64, most int64) (int64, int64, int) {
	best, size, often := int64(0), int64(math.MaxInt64), 0
	for shift := -most; shift <= most; shift++ {
		if n := greatestSize(a, b, days, shift); n < size {
			best, size, often = shift, n, 1
		} else if n == size {
			often++
		}
	}
	return best, size, often
}

// TestPromise16All compares many lists day by day, and tries all shifts.
func TestPromise16All(t *testing.T) {
	ties, below, several, none := 0, 0, 0, 0
	for seed := range uint64(600) {
		counts := []int64{2, 3, 6}[seed%3]
		a := madeTotals(int(seed%7), 5, counts, seed)
		b := madeTotals(int(seed/7%6), 5, counts, seed*13+5)
		days := commonByWords(60, a, b)
		checkDrifts(t, a, b, days)
		if len(days) == 0 {
			none++
			continue
		}
		_, worst, often := worstByWords(a, b, days)
		if often > 1 {
			ties++
		}
		if worst < 0 {
			below++
		}
		if _, _, shifts := shiftByTrial(a, b, days, 50); shifts > 1 {
			several++
		}
	}
	if min(ties, below, several, none) < 50 {
		t.Errorf("%d lists have their worst drift on several days, %d have one less than 0, %d have several best shifts, and %d have no common days", ties, below, several, none)
	}
}

// checkDrifts checks what is told of two lists against their common days.
func checkDrifts(t *testing.T, a, b []impl.Total, days []int64) {
	t.Helper()
	for day := range int64(62) {
		want, code := int64(0), int64(impl.ErrNotFound)
		if slices.Contains(days, day) {
			want, code = driftByWords(a, b, day), impl.OK
		}
		if drift, c := impl.DriftOn(a, b, day); drift != want || c != code {
			t.Fatalf("DriftOn(%v, %v, %d) = %d, %d, want %d, %d", a, b, day, drift, c, want, code)
		}
	}
	at, worst, codeWorst := impl.WorstDrift(a, b)
	shift, size, codeShift := impl.BestShift(a, b)
	if len(days) == 0 {
		if at != 0 || worst != 0 || shift != 0 || size != 0 || codeWorst != impl.ErrNotFound || codeShift != impl.ErrNotFound {
			t.Fatalf("%v and %v without common days: %d, %d, %d, and %d, %d, %d", a, b, at, worst, codeWorst, shift, size, codeShift)
		}
		return
	}
	wantAt, wantWorst, _ := worstByWords(a, b, days)
	if at != wantAt || worst != wantWorst || codeWorst != impl.OK {
		t.Fatalf("WorstDrift(%v, %v) = %d, %d, %d, want %d, %d", a, b, at, worst, codeWorst, wantAt, wantWorst)
	}
	wantShift, wantSize, _ := shiftByTrial(a, b, days, 50)
	if shift != wantShift || size != wantSize || codeShift != impl.OK {
		t.Fatalf("BestShift(%v, %v) = %d, %d, %d, want %d, %d", a, b, shift, size, codeShift, wantShift, wantSize)
	}
}

// TestPromise16Great has lists with great counts, over up to MaxSpan days: no common
// day has a greater drift than the worst one.
func TestPromise16Great(t *testing.T) {
	for seed := range uint64(60) {
		counts := []int64{10, 100000, 10000000000}[seed%3]
		a, b := madeTotals(60, 6, counts, seed), madeTotals(60, 6, counts, seed+100)
		days := commonByWords(400, a, b)
		at, worst, code := impl.WorstDrift(a, b)
		if drift, _ := impl.DriftOn(a, b, at); !slices.Contains(days, at) || drift != worst || code != impl.OK {
			t.Fatalf("WorstDrift(%v, %v) = %d, %d, %d", a, b, at, worst, code)
		}
		shift, size, code := impl.BestShift(a, b)
		if greatestSize(a, b, days, shift) != size || code != impl.OK {
			t.Fatalf("BestShift(%v, %v) = %d, %d, %d", a, b, shift, size, code)
		}
		if greatestSize(a, b, days, shift-1) <= size || greatestSize(a, b, days, shift+1) < size {
			t.Fatalf("BestShift(%v, %v) = %d, %d, but it is not the least of the best", a, b, shift, size)
		}
		for _, day := range days {
			drift, code := impl.DriftOn(a, b, day)
			if drift != driftByWords(a, b, day) || code != impl.OK {
				t.Fatalf("DriftOn(%v, %v, %d) = %d, %d", a, b, day, drift, code)
			}
			if n := sizeOfDrift(drift); n > sizeOfDrift(worst) || day < at && n == sizeOfDrift(worst) {
				t.Fatalf("WorstDrift(%v, %v) = %d, %d, but on the day %d it is %d", a, b, at, worst, day, drift)
			}
		}
	}
}

// TestPromise16ByHand has lists whose drifts are told here.
func TestPromise16ByHand(t *testing.T) {
	const most, end = impl.MaxCount, impl.MaxLogDay
	ten := totals(0, 0, 4, 10)
	tests := []struct {
		a, b        []impl.Total
		at, worst   int64
		shift, size int64
	}{
		{ten, totals(1, 1, 5, 5), 4, 6, 3, 3},
		{totals(1, 1, 5, 5), ten, 4, -6, -4, 3}, // the other way round: the lesser one of -4 and -3
		{ten, ten, 0, 0, 0, 0},
		{ten, totals(4, 3, 9, 9), 4, 7, 7, 0}, // one common day
		{totals(4, 3, 9, 9), ten, 4, -7, -7, 0},
		{ten, totals(0, 3), 0, -3, -3, 0},
		{totals(4, 3), totals(4, 3), 4, 0, 0, 0},
		{totals(0, 5, 4, 5), totals(0, 3, 4, 3), 0, 2, 2, 0}, // the same size on all days
		{totals(0, 3, 4, 3), totals(0, 5, 4, 5), 0, -2, -2, 0},
		{totals(0, 5, 1, 5, 2, 5, 3, 5), totals(0, 2, 1, 8, 2, 8, 3, 8), 0, 3, 0, 3}, // both signs, the first one greater than 0
		{totals(0, 5, 1, 5, 2, 5, 3, 5), totals(0, 8, 1, 8, 2, 8, 3, 8), 0, -3, -3, 0},
		{totals(0, 2, 1, 8, 2, 8, 3, 8), totals(0, 5, 1, 5, 2, 5, 3, 5), 0, -3, 0, 3}, // the first one less than 0
		{totals(0, 0, 1, 1, 2, 5, 3, 5), totals(0, 0, 1, 4, 2, 4, 3, 8), 1, -3, -1, 2},
		{totals(0, 0, 1, 4, 2, 4, 3, 8), totals(0, 0, 1, 1, 2, 5, 3, 5), 1, 3, 1, 2},
		{totals(0, 0, 3, 9), totals(0, 0, 1, 0, 2, 8, 3, 9), 1, 3, 0, 3},
		{totals(0, 0, 1, 1), totals(0, 0, 1, 0), 1, 1, 0, 1}, // 0 and 1 are as good
		{totals(0, 0, 1, 0), totals(0, 0, 1, 1), 1, -1, -1, 1},
		{totals(0, 0, 1, 0), totals(0, 0, 1, 2), 1, -2, -1, 1},
		{totals(0, 0, 1, 3), totals(0, 0, 1, 0), 1, 3, 1, 2},
		{totals(0, 0, 1, 0), totals(0, 0, 1, 3), 1, -3, -2, 2},
		{totals(0, 7, 1, 9), totals(0, 0, 1, 0), 1, 9, 8, 1},
		{totals(0, 0, 1, most), totals(0, 0, 1, 0), 1, most, most / 2, most / 2},
		{totals(0, 0, 1, 0), totals(0, 0, 1, most), 1, -most, -most / 2, most / 2},
		{totals(0, most, 1, most), totals(0, 0, 1, 0), 0, most, most, 0},
		{totals(0, 0, 1, most), totals(0, most, 1, most), 0, -most, -most / 2, most / 2},
		{totals(0, 1, 1, most), totals(0, most, 1, most), 0, 1 - most, -most / 2, most / 2},
		{totals(end, most), totals(end, 0), end, most, most, 0},
		{totals(0, 0, 399, 399), totals(0, 0, 399, 0), 399, 399, 199, 200}, // just MaxSpan days
		{totals(0, 0, 399, 399), totals(0, 0, end, 0), 399, 399, 199, 200},
		{totals(5, 0, 500, 0), totals(0, 0, 404, 404), 404, -404, -205, 200},
		{totals(0, 0, 500, 0), totals(101, 0, 600, 499), 500, -399, -200, 200},
		{totals(end-399, 0, end, 0), totals(0, 7, end, 7), end - 399, -7, -7, 0},
	}
	for _, x := range tests {
		if at, worst, code := impl.WorstDrift(x.a, x.b); at != x.at || worst != x.worst || code != impl.OK {
			t.Errorf("WorstDrift(%v, %v) = %d, %d, %d, want %d, %d", x.a, x.b, at, worst, code, x.at, x.worst)
		}
		if shift, size, code := impl.BestShift(x.a, x.b); shift != x.shift || size != x.size || code != impl.OK {
			t.Errorf("BestShift(%v, %v) = %d, %d, %d, want %d, %d", x.a, x.b, shift, size, code, x.shift, x.size)
		}
	}
}

// TestPromise16Errors checks what is refused, and in which order.
func TestPromise16Errors(t *testing.T) {
	const end = impl.MaxLogDay
	list := totals(2, 1, 4, 10)
	tests := []struct {
		a, b []impl.Total
		want int64
	}{
		{nil, nil, impl.ErrNotFound},
		{list, nil, impl.ErrNotFound},
		{nil, list, impl.ErrNotFound},
		{list, []impl.Total{}, impl.ErrNotFound},
		{list, totals(5, 1, 9, 2), impl.ErrNotFound}, // no common days
		{totals(5, 1, 9, 2), list, impl.ErrNotFound},
		{list, totals(0, 1, 1, 2), impl.ErrNotFound},
		{list, totals(1, 1), impl.ErrNotFound},
		{list, totals(5, 1), impl.ErrNotFound},
		{totals(0, 1, 1000, 2), nil, impl.ErrNotFound}, // of many days
		{totals(0, 1, 1000, 2), totals(1001, 3, 2000, 4), impl.ErrNotFound},
		{list, list, impl.OK},
		{list, totals(4, 1, 9, 2), impl.OK},
		{list, totals(0, 1, 2, 2), impl.OK},
		{totals(0, 1, 399, 2), totals(0, 1, 399, 2), impl.OK},
		{totals(0, 1, 400, 2), totals(0, 1, 400, 2), impl.ErrLimit}, // one day more than MaxSpan
		{totals(0, 1, 400, 2), totals(0, 1, 399, 2), impl.OK},
		{totals(0, 1, 400, 2), totals(1, 1, 400, 2), impl.OK},
		{totals(0, 1, 400, 2), totals(0, 1, end, 2), impl.ErrLimit},
		{totals(0, 1, end, 2), totals(0, 1, end, 2), impl.ErrLimit},
		{totals(0, 1, end, 2), totals(end-399, 1, end, 2), impl.OK},
		{totals(0, 1, end, 2), totals(end-400, 1, end, 2), impl.ErrLimit},
		{totals(100, 1, 600, 2), totals(200, 1, 700, 2), impl.ErrLimit},
		{totals(100, 1, 600, 2), totals(201, 1, 700, 2), impl.OK},
	}
	for _, x := range tests {
		at, worst, one := impl.WorstDrift(x.a, x.b)
		shift, size, two := impl.BestShift(x.a, x.b)
		if one != x.want || two != x.want || x.want != impl.OK && (at != 0 || worst != 0 || shift != 0 || size != 0) {
			t.Errorf("%v and %v: %d, %d, %d, and %d, %d, %d, want the code %d", x.a, x.b, at, worst, one, shift, size, two, x.want)
		}
	}
	for i, bad := range badTotals() {
		for _, other := range [][]impl.Total{nil, list, totals(0, 1, end, 2), bad, totals(-1, 0)} {
			for _, both := range [][2][]impl.Total{{bad, other}, {other, bad}} {
				driftsRefused(t, fmt.Sprint("the bad list ", i), both[0], both[1])
			}
		}
	}
}

// driftsRefused checks that two lists are refused ahead of every other error.
func driftsRefused(t *testing.T, name string, a, b []impl.Total) {
	t.Helper()
	at, worst, one := impl.WorstDrift(a, b)
	shift, size, two := impl.BestShift(a, b)
	mustCode(t, "WorstDrift of "+name, one, impl.ErrInvalid)
	mustCode(t, "BestShift of "+name, two, impl.ErrInvalid)
	if at != 0 || worst != 0 || shift != 0 || size != 0 {
		t.Errorf("%s: %d, %d, and %d, %d", name, at, worst, shift, size)
	}
	for _, day := range []int64{0, 3, 50, impl.MaxLogDay, -1, impl.MaxLogDay + 1, math.MinInt64} {
		drift, code := impl.DriftOn(a, b, day)
		mustCode(t, "DriftOn of "+name, code, impl.ErrInvalid)
		if drift != 0 {
			t.Errorf("DriftOn of %s is %d", name, drift)
		}
	}
}

// TestPromise16Day checks DriftOn at the ends of lists, and on days that are none.
func TestPromise16Day(t *testing.T) {
	const most, end, lost = impl.MaxCount, impl.MaxLogDay, int64(impl.ErrNotFound)
	a, b := totals(2, 1, 4, 10, 9, 10), totals(3, 20, 5, 21)
	tests := []struct {
		a, b      []impl.Total
		day, want int64
		code      int64
	}{
		{a, b, 1, 0, lost}, // behind neither
		{a, b, 2, 0, lost}, // the second one is missing
		{b, a, 2, 0, lost}, // the first one is
		{a, b, 3, -15, impl.OK},
		{b, a, 3, 15, impl.OK},
		{a, b, 4, -10, impl.OK},
		{a, b, 5, -11, impl.OK},
		{a, b, 6, 0, lost},
		{b, a, 6, 0, lost},
		{a, b, 10, 0, lost},
		{a, a, 8, 0, impl.OK},
		{a, nil, 3, 0, lost},
		{nil, a, 3, 0, lost},
		{nil, nil, 0, 0, lost},
		{totals(0, 0, end, most), totals(0, 0, end, 0), end, most, impl.OK}, // of more than MaxSpan days
		{totals(0, 0, end, most), totals(0, 0, end, 0), 1, 10000000, impl.OK},
		{totals(0, 0, end, 0), totals(0, 0, end, most), end, -most, impl.OK},
	}
	for _, x := range tests {
		if drift, code := impl.DriftOn(x.a, x.b, x.day); drift != x.want || code != x.code {
			t.Errorf("DriftOn(%v, %v, %d) = %d, %d, want %d, %d", x.a, x.b, x.day, drift, code, x.want, x.code)
		}
	}
	for _, bad := range badNumbers(end) { // a range ahead of what is not found
		for _, both := range [][2][]impl.Total{{a, b}, {nil, nil}, {a, nil}, {nil, a}} {
			drift, code := impl.DriftOn(both[0], both[1], bad)
			mustCode(t, fmt.Sprint("DriftOn of the day ", bad), code, impl.ErrRange)
			if drift != 0 {
				t.Errorf("DriftOn of the day %d is %d", bad, drift)
			}
		}
	}
}
