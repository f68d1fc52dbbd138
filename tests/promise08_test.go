package tests

import (
	"fmt"
	"math"
	"testing"

	"loop.example/g01278/impl"
)

// TestPromise8Possible turns an odometer from each value to each other one.
func TestPromise8Possible(t *testing.T) {
	for _, s := range smallStacks() {
		size, _ := impl.SizeOf(s)
		for _, f := range smallFlows() {
			for a := range size {
				for b := range size {
					days := 1 + (a*7+b*3)%3
					checkBetween(t, s, reading(4, a), reading(4+days, b), f)
				}
			}
		}
	}
}

// checkBetween checks what is told of two readings against all counts by trial.
func checkBetween(t *testing.T, s impl.Stack, a, b impl.Reading, f impl.Flow) {
	t.Helper()
	counts, rounds := countsByTrial(s, a, b, f)
	var want, turned [2]int64
	code, last := int64(impl.ErrNotFound), len(counts)-1
	if last >= 0 {
		want, turned, code = [2]int64{counts[0], counts[last]}, [2]int64{rounds[0], rounds[last]}, impl.OK
	}
	least, greatest, c := impl.CountsBetween(s, a, b, f)
	if [2]int64{least, greatest} != want || c != code {
		t.Fatalf("CountsBetween(%v, %v, %v, %v) = %d, %d, %d, want %v, %d", s, a, b, f, least, greatest, c, want, code)
	}
	low, high, c := impl.RoundsBetween(s, a, b, f)
	if [2]int64{low, high} != turned || c != code {
		t.Fatalf("RoundsBetween(%v, %v, %v, %v) = %d, %d, %d, want %v, %d", s, a, b, f, low, high, c, turned, code)
	}
	back, c := impl.SetBackBy(s, a, b, f)
	if back != setBackByTrial(s, a, b, f) || c != impl.OK || (back == 0) != (code == impl.OK) {
		t.Fatalf("SetBackBy(%v, %v, %v, %v) = %d, %d, want %d; counts %v", s, a, b, f, back, c, setBackByTrial(s, a, b, f), counts)
	}
}

// TestPromise8Brings checks that what is possible brings one value to the other one
// by AddTo, within the flow, and that there is nothing less and nothing more.
func TestPromise8Brings(t *testing.T) {
	stacks := []impl.Stack{{10, 10}, {60, 60, 24}, {2}, {100, 100, 100}, limitStack(), {2, 3, 5, 7, 11, 13}}
	flows := append(smallFlows(), flow(0, 100), flow(1440, 1440), flow(999, 100001), flow(0, impl.MaxFlow), flow(impl.MaxFlow, impl.MaxFlow))
	for _, s := range stacks {
		size, _ := impl.SizeOf(s)
		for _, f := range flows {
			for _, days := range []int64{1, 2, 7, 1000, impl.MaxLogDay} {
				for _, values := range [][2]int64{{0, 0}, {0, 1}, {1, 0}, {size - 1, 0}, {0, size - 1}, {size / 2, size / 3}, {size / 3, size / 2}} {
					checkBrings(t, s, reading(0, values[0]), reading(days, values[1]), f)
				}
			}
		}
	}
}

func checkBrings(t *testing.T, s impl.Stack, a, b impl.Reading, f impl.Flow) {
	t.Helper()
	size, _ := impl.SizeOf(s)
	low, high := f.Low*(b.Day-a.Day), f.High*(b.Day-a.Day)
	from, _ := impl.DigitsOf(s, a.Value)
	to, _ := impl.DigitsOf(s, b.Value)
	least, greatest, code := impl.CountsBetween(s, a, b, f)
	if code == impl.ErrNotFound {
		checkSetBack(t, s, a, b, f)
		return
	}
	lessRounds, moreRounds, codeRounds := impl.RoundsBetween(s, a, b, f)
	if code != impl.OK || codeRounds != impl.OK {
		t.Fatalf("%v to %v with %v: codes %d, %d", a, b, f, code, codeRounds)
	}
	for count, rounds := range map[int64]int64{least: lessRounds, greatest: moreRounds} {
		if d, n, code := impl.AddTo(s, from, count); d != to || n != rounds || code != impl.OK {
			t.Fatalf("%v and %d are %v with %d rounds, code %d, want %v with %d", from, count, d, n, code, to, rounds)
		}
	}
	if least < low || least-size >= low || greatest > high || greatest+size <= high || least > greatest {
		t.Fatalf("%v to %v with %v: the counts %d to %d of %d to %d", a, b, f, least, greatest, low, high)
	}
	if back, code := impl.SetBackBy(s, a, b, f); back != 0 || code != impl.OK {
		t.Fatalf("%v to %v with %v is set back by %d, code %d", a, b, f, back, code)
	}
}

// checkSetBack checks that a count is possible to the value that has been set back,
// and that the count before it leads to no value between.
func checkSetBack(t *testing.T, s impl.Stack, a, b impl.Reading, f impl.Flow) {
	t.Helper()
	to, _ := impl.DigitsOf(s, b.Value)
	back, code := impl.SetBackBy(s, a, b, f)
	shown, _, _ := impl.AddTo(s, to, back)
	value, _ := impl.ValueOf(s, shown)
	if back < 1 || code != impl.OK {
		t.Fatalf("%v to %v with %v is set back by %d, code %d", a, b, f, back, code)
	}
	if least, _, code := impl.CountsBetween(s, a, reading(b.Day, value), f); least != f.Low*(b.Day-a.Day) || code != impl.OK {
		t.Fatalf("%v to %d on the day %d with %v: the least count %d, code %d", a, value, b.Day, f, least, code)
	}
	if back > 1 {
		before, _, _ := impl.AddTo(s, to, back-1)
		value, _ := impl.ValueOf(s, before)
		if _, _, code := impl.CountsBetween(s, a, reading(b.Day, value), f); code != impl.ErrNotFound {
			t.Fatalf("%v to %v with %v is set back by %d, but a count to %d has the code %d", a, b, f, back, value, code)
		}
	}
}

func TestPromise8ByHand(t *testing.T) {
	ten := impl.Stack{10, 10}
	tests := []struct {
		s       impl.Stack
		a, b    impl.Reading
		f       impl.Flow
		counts  [2]int64 // -1 and -1 for none
		rounds  [2]int64
		setBack int64
	}{
		{ten, reading(0, 20), reading(3, 26), flow(1, 5), [2]int64{6, 6}, [2]int64{0, 0}, 0},
		{ten, reading(0, 20), reading(3, 16), flow(1, 5), [2]int64{-1, -1}, [2]int64{}, 7},
		{ten, reading(0, 20), reading(3, 23), flow(1, 5), [2]int64{3, 3}, [2]int64{0, 0}, 0}, // just Low
		{ten, reading(0, 20), reading(3, 22), flow(1, 5), [2]int64{-1, -1}, [2]int64{}, 1},   // not by one
		{ten, reading(0, 20), reading(3, 35), flow(1, 5), [2]int64{15, 15}, [2]int64{0, 0}, 0},
		{ten, reading(0, 20), reading(3, 36), flow(1, 5), [2]int64{-1, -1}, [2]int64{}, 87}, // 36 and 87 are 23
		{ten, reading(0, 20), reading(3, 20), flow(0, 5), [2]int64{0, 0}, [2]int64{0, 0}, 0},
		{ten, reading(0, 20), reading(3, 20), flow(1, 5), [2]int64{-1, -1}, [2]int64{}, 3},
		{ten, reading(0, 20), reading(100, 20), flow(1, 5), [2]int64{100, 500}, [2]int64{1, 5}, 0},
		{ten, reading(0, 20), reading(100, 19), flow(1, 5), [2]int64{199, 499}, [2]int64{2, 5}, 0},
		{ten, reading(0, 20), reading(100, 21), flow(1, 5), [2]int64{101, 401}, [2]int64{1, 4}, 0},
		{ten, reading(0, 98), reading(2, 3), flow(1, 5), [2]int64{5, 5}, [2]int64{1, 1}, 0},
		{ten, reading(0, 98), reading(2, 99), flow(1, 5), [2]int64{-1, -1}, [2]int64{}, 1},
		{ten, reading(0, 98), reading(2, 9), flow(1, 5), [2]int64{-1, -1}, [2]int64{}, 91}, // over 99
		{ten, reading(0, 98), reading(2, 8), flow(1, 5), [2]int64{10, 10}, [2]int64{1, 1}, 0},
		{ten, reading(0, 5), reading(1, 5), flow(0, 0), [2]int64{0, 0}, [2]int64{0, 0}, 0},
		{ten, reading(0, 5), reading(1, 6), flow(0, 0), [2]int64{-1, -1}, [2]int64{}, 99},
		{ten, reading(0, 5), reading(1, 4), flow(0, 0), [2]int64{-1, -1}, [2]int64{}, 1},
		{ten, reading(0, 5), reading(2, 5), flow(50, 50), [2]int64{100, 100}, [2]int64{1, 1}, 0},
		{ten, reading(0, 5), reading(2, 6), flow(50, 50), [2]int64{-1, -1}, [2]int64{}, 99},
		{ten, reading(0, 5), reading(2, 6), flow(50, 51), [2]int64{101, 101}, [2]int64{1, 1}, 0},
		{ten, reading(0, 5), reading(2, 8), flow(50, 51), [2]int64{-1, -1}, [2]int64{}, 97},
		{impl.Stack{2}, reading(0, 0), reading(impl.MaxLogDay, 1), flow(0, impl.MaxFlow), [2]int64{1, 99999999999}, [2]int64{0, 49999999999}, 0},
		{impl.Stack{2}, reading(0, 1), reading(impl.MaxLogDay, 1), flow(0, impl.MaxFlow), [2]int64{0, 100000000000}, [2]int64{0, 50000000000}, 0},
		{impl.Stack{2}, reading(0, 1), reading(impl.MaxLogDay, 1), flow(impl.MaxFlow, impl.MaxFlow), [2]int64{100000000000, 100000000000}, [2]int64{50000000000, 50000000000}, 0},
		{impl.Stack{2}, reading(0, 1), reading(impl.MaxLogDay, 0), flow(impl.MaxFlow, impl.MaxFlow), [2]int64{-1, -1}, [2]int64{}, 1},
		{limitStack(), reading(0, 0), reading(1, impl.MaxCount-1), flow(0, impl.MaxFlow), [2]int64{-1, -1}, [2]int64{}, 1},
		{limitStack(), reading(0, impl.MaxCount-1), reading(1, 0), flow(0, impl.MaxFlow), [2]int64{1, 1}, [2]int64{1, 1}, 0},
		{limitStack(), reading(0, 0), reading(1, 1), flow(0, 0), [2]int64{-1, -1}, [2]int64{}, impl.MaxCount - 1},
		{limitStack(), reading(0, impl.MaxCount-1), reading(impl.MaxLogDay, 0), flow(0, 0), [2]int64{-1, -1}, [2]int64{}, impl.MaxCount - 1},
		{limitStack(), reading(0, impl.MaxCount-1), reading(impl.MaxLogDay, 0), flow(impl.MaxFlow, impl.MaxFlow), [2]int64{-1, -1}, [2]int64{}, 99999999999},
		{limitStack(), reading(0, 7), reading(impl.MaxLogDay, 100000000007), flow(0, impl.MaxFlow), [2]int64{100000000000, 100000000000}, [2]int64{0, 0}, 0},
		{limitStack(), reading(0, 7), reading(impl.MaxLogDay, 100000000008), flow(0, impl.MaxFlow), [2]int64{-1, -1}, [2]int64{}, impl.MaxCount - 100000000001},
		{limitStack(), reading(1, 7), reading(impl.MaxLogDay, 100000000007), flow(0, impl.MaxFlow), [2]int64{-1, -1}, [2]int64{}, impl.MaxCount - 100000000000},
	}
	for _, x := range tests {
		counts, rounds, code := x.counts, x.rounds, int64(impl.OK)
		if x.counts == [2]int64{-1, -1} {
			counts, rounds, code = [2]int64{}, [2]int64{}, impl.ErrNotFound
		}
		name := fmt.Sprint(x.s, x.a, x.b, x.f)
		if a, b, c := impl.CountsBetween(x.s, x.a, x.b, x.f); [2]int64{a, b} != counts || c != code {
			t.Errorf("CountsBetween of %s: %d, %d, %d, want %v, %d", name, a, b, c, counts, code)
		}
		if a, b, c := impl.RoundsBetween(x.s, x.a, x.b, x.f); [2]int64{a, b} != rounds || c != code {
			t.Errorf("RoundsBetween of %s: %d, %d, %d, want %v, %d", name, a, b, c, rounds, code)
		}
		if back, c := impl.SetBackBy(x.s, x.a, x.b, x.f); back != x.setBack || c != impl.OK {
			t.Errorf("SetBackBy of %s: %d, %d, want %d", name, back, c, x.setBack)
		}
	}
}

// betweenCodes returns the codes of all functions with two readings.
func betweenCodes(t *testing.T, s impl.Stack, a, b impl.Reading, f impl.Flow) [3]int64 {
	t.Helper()
	least, greatest, one := impl.CountsBetween(s, a, b, f)
	low, high, two := impl.RoundsBetween(s, a, b, f)
	back, three := impl.SetBackBy(s, a, b, f)
	if one != impl.OK && (least != 0 || greatest != 0) || two != impl.OK && (low != 0 || high != 0) || three != impl.OK && back != 0 {
		t.Errorf("%v to %v with %v: %d, %d, %d, %d, %d with the codes %d, %d, %d", a, b, f, least, greatest, low, high, back, one, two, three)
	}
	return [3]int64{one, two, three}
}

// TestPromise8Errors checks what is refused, and in which order.
func TestPromise8Errors(t *testing.T) {
	s, f := impl.Stack{10, 10}, flow(1, 5)
	early, late, never := reading(5, 20), reading(8, 26), reading(8, 90)
	tests := []struct {
		a, b impl.Reading
		want [3]int64
	}{
		{early, late, [3]int64{impl.OK, impl.OK, impl.OK}},
		{early, never, [3]int64{impl.ErrNotFound, impl.ErrNotFound, impl.OK}},
		{late, early, [3]int64{impl.ErrRange, impl.ErrRange, impl.ErrRange}},
		{never, early, [3]int64{impl.ErrRange, impl.ErrRange, impl.ErrRange}},
		{early, early, [3]int64{impl.ErrRange, impl.ErrRange, impl.ErrRange}}, // the same day
		{early, reading(5, 90), [3]int64{impl.ErrRange, impl.ErrRange, impl.ErrRange}},
		{early, reading(4, 20), [3]int64{impl.ErrRange, impl.ErrRange, impl.ErrRange}},
		{reading(impl.MaxLogDay, 20), reading(0, 25), [3]int64{impl.ErrRange, impl.ErrRange, impl.ErrRange}},
		{reading(impl.MaxLogDay-1, 20), reading(impl.MaxLogDay, 25), [3]int64{impl.OK, impl.OK, impl.OK}},
		{reading(0, 0), reading(1, 99), [3]int64{impl.ErrNotFound, impl.ErrNotFound, impl.OK}},
	}
	for _, x := range tests {
		if codes := betweenCodes(t, s, x.a, x.b, f); codes != x.want {
			t.Errorf("%v to %v: codes %v, want %v", x.a, x.b, codes, x.want)
		}
	}
	invalid := [3]int64{impl.ErrInvalid, impl.ErrInvalid, impl.ErrInvalid}
	for _, x := range tests { // what is not valid comes ahead of all others
		for _, bad := range badStacks() {
			if codes := betweenCodes(t, bad, x.a, x.b, f); codes != invalid {
				t.Errorf("%v to %v on a bad stack: codes %v", x.a, x.b, codes)
			}
		}
		for _, bad := range badReadings() {
			for _, codes := range [][3]int64{betweenCodes(t, s, bad, x.b, f), betweenCodes(t, s, x.a, bad, f), betweenCodes(t, s, bad, bad, f)} {
				if codes != invalid {
					t.Errorf("%v to %v, with %v: codes %v", x.a, x.b, bad, codes)
				}
			}
		}
		for _, bad := range badFlows() {
			if codes := betweenCodes(t, s, x.a, x.b, bad); codes != invalid {
				t.Errorf("%v to %v with %v: codes %v", x.a, x.b, bad, codes)
			}
		}
	}
}

// TestPromise8Limits checks readings and flows at their limits, by the functions
// that take them.
func TestPromise8Limits(t *testing.T) {
	s := impl.Stack{10, 10}
	ok := [3]int64{impl.OK, impl.OK, impl.OK}
	tests := []struct {
		a, b impl.Reading
		f    impl.Flow
	}{
		{reading(0, 0), reading(impl.MaxLogDay, 99), flow(0, impl.MaxFlow)},
		{reading(0, 99), reading(impl.MaxLogDay, 0), flow(0, impl.MaxFlow)},
		{reading(0, 5), reading(1, 5), flow(impl.MaxFlow, impl.MaxFlow)},
		{reading(0, 5), reading(1, 5), flow(0, 0)},
	}
	for _, x := range tests {
		if codes := betweenCodes(t, s, x.a, x.b, x.f); codes != ok {
			t.Errorf("%v to %v with %v: codes %v", x.a, x.b, x.f, codes)
		}
	}
	for _, n := range []int64{math.MinInt64, -1, impl.MaxLogDay + 1, math.MaxInt64} {
		_, _, code := impl.CountsBetween(s, reading(0, 0), reading(n, 0), flow(0, 0))
		mustCode(t, fmt.Sprint("CountsBetween to the day ", n), code, impl.ErrInvalid)
	}
}
