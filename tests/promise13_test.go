package tests

import (
	"fmt"
	"math"
	"math/big"
	"slices"
	"testing"

	"loop.example/g01278/impl"
)

// shown is what a meter shows behind some flow.
type shown struct{ rounds, value int64 }

// TestPromise13All drives meters by one unit of a flow at a time.
func TestPromise13All(t *testing.T) {
	skipped, several := 0, 0
	for _, s := range []impl.Stack{{2}, {7}, {2, 3}, {3, 2, 2}} {
		for _, scale := range [][2]int64{{1, 1}, {1, 2}, {1, 3}, {2, 3}, {3, 2}, {2, 1}, {5, 1}, {3, 7}, {7, 3}, {4, 6}, {6, 4}, {1, 10}, {31, 10}} {
			size, _ := impl.SizeOf(s)
			for start := range size {
				none, more := checkDriven(t, meter(s, scale[0], scale[1], start), 60)
				skipped += none
				several += more
			}
		}
	}
	if skipped < 100 || several < 100 {
		t.Errorf("%d values are shown behind no flow, and %d behind several", skipped, several)
	}
}

// checkDriven checks a meter behind each flow up to most, and returns how many values
// in a round are not shown at all, and how many are shown behind several flows.
func checkDriven(t *testing.T, m impl.Meter, most int64) (int, int) {
	t.Helper()
	all := allDigits(m.Stack)
	first, last, flows := map[shown]int64{}, shown{}, map[shown]int64{}
	w := turbineOf(m)
	for flow := range most + 1 {
		value := int64(slices.Index(all, w.shows))
		if count, code := impl.CountAfter(m, flow); count != w.count || code != impl.OK {
			t.Fatalf("CountAfter(%v, %d) = %d, %d, want %d", m, flow, count, code, w.count)
		}
		if v, rounds, code := impl.ShowsAfter(m, flow); v != value || rounds != w.rounds || code != impl.OK {
			t.Fatalf("ShowsAfter(%v, %d) = %d, %d, %d, want %d, %d", m, flow, v, rounds, code, value, w.rounds)
		}
		last = shown{w.rounds, value}
		if flows[last] == 0 {
			first[last] = flow
		}
		flows[last]++
		w.drive()
	}
	skipped, several := 0, 0
	// What is shown last may be shown for longer, and what comes behind it is not known.
	for rounds := range last.rounds + 1 {
		for value := range int64(len(all)) {
			if rounds == last.rounds && value >= last.value {
				break
			}
			x := shown{rounds, value}
			low, high, want := first[x], first[x]+flows[x]-1, int64(impl.OK)
			if flows[x] == 0 {
				low, high, want = 0, 0, impl.ErrNotFound
				skipped++
			}
			if flows[x] > 1 {
				several++
			}
			if a, b, code := impl.FlowsFor(m, rounds, value); a != low || b != high || code != want {
				t.Fatalf("FlowsFor(%v, %d, %d) = %d, %d, %d, want %d, %d, %d", m, rounds, value, a, b, code, low, high, want)
			}
		}
	}
	return skipped, several
}

// greatMeters have great stacks, or scales at their limits.
func greatMeters() []impl.Meter {
	const end = impl.MaxCount - 1
	ten, great := impl.Stack{10, 10}, limitStack()
	return []impl.Meter{
		meter(great, 1, 1, 0), meter(great, 1, 1, end), meter(great, 1000, 1, 0), meter(great, 1000, 1, end), meter(great, 1, 1000, end), meter(great, 999, 1000, 5),
		meter(great, 1000, 999, end), meter(great, 1000, 1000, 77), meter(impl.Stack{2}, 1000, 1, 1), meter(impl.Stack{2}, 1, 1000, 0), meter(impl.Stack{2}, 1, 1, 1),
		meter(ten, 7, 3, 99), meter(ten, 3, 7, 0), meter(ten, 1000, 7, 50), meter(ten, 7, 1000, 50), meter(impl.Stack{60, 60, 24}, 997, 991, 86399),
		meter(impl.Stack{100, 100, 100, 100, 100, 99}, 1000, 3, 12345), meter(impl.Stack{64, 64, 64, 64, 64}, 1, 1, 0),
	}
}

// TestPromise13Great has flows of up to MaxCount.
func TestPromise13Great(t *testing.T) {
	flows := []int64{0, 1, 2, 3, 999, 1000, 1001, 123456789, 999999999999, impl.MaxCount, impl.MaxCount / 2, impl.MaxCount/3 + 1, impl.MaxCount - 1000, impl.MaxCount - 999, impl.MaxCount - 1001}
	for i := range int64(40) {
		flows = append(flows, i*i*i*15485863*31%(impl.MaxCount+1))
	}
	for _, m := range greatMeters() {
		size, _ := impl.SizeOf(m.Stack)
		for _, flow := range flows {
			sum := sumAfter(m, flow)
			rounds, value := new(big.Int).DivMod(sum, big.NewInt(size), new(big.Int))
			if count, code := impl.CountAfter(m, flow); big.NewInt(count+m.Start).Cmp(sum) != 0 || code != impl.OK {
				t.Fatalf("CountAfter(%v, %d) = %d, %d, want %v less the Start", m, flow, count, code, sum)
			}
			v, r, code := impl.ShowsAfter(m, flow)
			if big.NewInt(v).Cmp(value) != 0 || big.NewInt(r).Cmp(rounds) != 0 || code != impl.OK {
				t.Fatalf("ShowsAfter(%v, %d) = %d, %d, %d, want %v, %v", m, flow, v, r, code, value, rounds)
			}
			if r > impl.MaxCount {
				low, high, code := impl.FlowsFor(m, r, v)
				if low != 0 || high != 0 || code != impl.ErrRange {
					t.Fatalf("FlowsFor(%v, %d, %d) = %d, %d, %d", m, r, v, low, high, code)
				}
				continue
			}
			low, high, code := impl.FlowsFor(m, r, v)
			if low > flow || high < flow || code != impl.OK {
				t.Fatalf("FlowsFor(%v, %d, %d) = %d, %d, %d, but it is shown behind %d", m, r, v, low, high, code, flow)
			}
			checkShown(t, m, low, high, r, v)
		}
	}
}

// checkShown checks that a value is shown behind the least and the greatest flow, but
// not behind one less, or one more.
func checkShown(t *testing.T, m impl.Meter, low, high, rounds, value int64) {
	t.Helper()
	for flow := low - 1; flow <= low+1; flow++ {
		checkShownAt(t, m, flow, low, high, rounds, value)
	}
	for flow := high - 1; flow <= high+1; flow++ {
		checkShownAt(t, m, flow, low, high, rounds, value)
	}
}

func checkShownAt(t *testing.T, m impl.Meter, flow, low, high, rounds, value int64) {
	t.Helper()
	v, r, code := impl.ShowsAfter(m, flow)
	if flow < 0 || flow > impl.MaxCount {
		if v != 0 || r != 0 || code != impl.ErrRange {
			t.Fatalf("ShowsAfter(%v, %d) = %d, %d, %d", m, flow, v, r, code)
		}
		return
	}
	if inside := flow >= low && flow <= high; code != impl.OK || inside != (v == value && r == rounds) {
		t.Fatalf("ShowsAfter(%v, %d) = %d, %d, %d, but FlowsFor %d rounds and %d is %d to %d", m, flow, v, r, code, rounds, value, low, high)
	}
}

// TestPromise13Found asks for flows of many rounds and values: what is found is shown,
// and nothing is shown where none is found.
func TestPromise13Found(t *testing.T) {
	found, none := 0, 0
	for _, m := range greatMeters() {
		size, _ := impl.SizeOf(m.Stack)
		for i := range int64(60) {
			rounds, value := i*i*i*i*7919, i*i*i*15485863*13%size
			if i%3 == 0 {
				rounds = i / 3
			}
			low, high, code := impl.FlowsFor(m, rounds, value)
			if code == impl.OK {
				found++
				checkShown(t, m, low, high, rounds, value)
				continue
			}
			none++
			sum := new(big.Int).Mul(big.NewInt(rounds), big.NewInt(size))
			sum.Add(sum, big.NewInt(value))
			if low != 0 || high != 0 || code != impl.ErrNotFound || hasFlow(m, sum) {
				t.Fatalf("FlowsFor(%v, %d, %d) = %d, %d, %d", m, rounds, value, low, high, code)
			}
		}
	}
	if found < 100 || none < 100 {
		t.Errorf("%d are found, and %d are not", found, none)
	}
}

// hasFlow reports whether there is a flow behind which the count and the Start are
// sum: it halves all flows.
func hasFlow(m impl.Meter, sum *big.Int) bool {
	low, high := int64(0), int64(impl.MaxCount)
	for low < high {
		middle := (low + high) / 2
		if sumAfter(m, middle).Cmp(sum) < 0 {
			low = middle + 1
		} else {
			high = middle
		}
	}
	return sumAfter(m, low).Cmp(sum) == 0
}

// TestPromise13ByHand has meters whose flows are told here.
func TestPromise13ByHand(t *testing.T) {
	const most, lost = impl.MaxCount, int64(impl.ErrNotFound)
	ten, great, two := impl.Stack{10, 10}, limitStack(), impl.Stack{2}
	tests := []struct {
		m             impl.Meter
		rounds, value int64
		low, high     int64
		code          int64
	}{
		{meter(ten, 1, 3, 95), 0, 98, 9, 11, impl.OK},
		{meter(ten, 1, 3, 95), 0, 95, 0, 2, impl.OK}, // a least flow of 0
		{meter(ten, 1, 3, 95), 1, 3, 24, 26, impl.OK},
		{meter(ten, 1, 3, 95), 1, 0, 15, 17, impl.OK},
		{meter(ten, 1, 3, 95), 0, 99, 12, 14, impl.OK},
		{meter(ten, 1, 3, 95), 0, 94, 0, 0, lost}, // less than Start, before any round
		{meter(ten, 1, 3, 95), 0, 0, 0, 0, lost},
		{meter(ten, 1, 3, 95), 1, 94, 297, 299, impl.OK},
		{meter(ten, 1, 3, 95), 2, 3, 324, 326, impl.OK},
		{meter(ten, 1, 1, 0), 0, 0, 0, 0, impl.OK},
		{meter(ten, 1, 1, 0), 0, 99, 99, 99, impl.OK},
		{meter(ten, 1, 1, 99), 0, 99, 0, 0, impl.OK},
		{meter(ten, 1, 1, 99), 1, 0, 1, 1, impl.OK},
		{meter(ten, 1, 1, 99), 0, 98, 0, 0, lost},
		{meter(ten, 1, 1, 0), 5, 7, 507, 507, impl.OK},
		{meter(ten, 3, 1, 0), 0, 3, 1, 1, impl.OK}, // one flow alone
		{meter(ten, 3, 1, 0), 0, 4, 0, 0, lost},    // 4 is passed over
		{meter(ten, 3, 1, 0), 0, 5, 0, 0, lost},
		{meter(ten, 3, 1, 0), 1, 2, 34, 34, impl.OK},
		{meter(ten, 3, 1, 0), 1, 0, 0, 0, lost},
		{meter(ten, 3, 2, 0), 0, 1, 1, 1, impl.OK},
		{meter(ten, 3, 2, 0), 0, 2, 0, 0, lost},
		{meter(ten, 3, 2, 0), 0, 3, 2, 2, impl.OK},
		{meter(ten, 2, 3, 0), 0, 0, 0, 1, impl.OK},
		{meter(ten, 2, 3, 0), 0, 1, 2, 2, impl.OK}, // two flows, and then one
		{meter(ten, 2, 3, 0), 0, 2, 3, 4, impl.OK},
		{meter(ten, 1000, 1000, 0), 0, 7, 7, 7, impl.OK}, // both of just MaxScale
		{meter(ten, 1, 1000, 0), 0, 7, 7000, 7999, impl.OK},
		{meter(ten, 1000, 1, 0), 10, 0, 1, 1, impl.OK},
		{meter(ten, 1000, 1, 0), 10, 1, 0, 0, lost},
		{meter(two, 1000, 1, 0), most, 0, 2000000000, 2000000000, impl.OK}, // MaxCount rounds
		{meter(two, 1000, 1, 0), most, 1, 0, 0, lost},
		{meter(two, 1000, 1, 1), most, 1, 2000000000, 2000000000, impl.OK},
		{meter(two, 2, 1, 0), most, 0, most, most, impl.OK}, // behind the greatest flow
		{meter(two, 2, 1, 1), most, 1, most, most, impl.OK},
		{meter(two, 2, 1, 1), most, 0, 0, 0, lost},
		{meter(two, 1, 1, 0), most / 2, 0, most, most, impl.OK},
		{meter(two, 1, 1, 0), most / 2, 1, 0, 0, lost}, // one flow more would show it
		{meter(two, 1, 1, 0), most/2 + 1, 0, 0, 0, lost},
		{meter(two, 1, 1, 0), most, 0, 0, 0, lost},
		{meter(two, 1, 1, 1), most / 2, 1, most, most, impl.OK},
		{meter(two, 1, 1, 1), most/2 + 1, 0, 0, 0, lost},
		{meter(great, 1, 1, 0), 1, 0, most, most, impl.OK},
		{meter(great, 1, 1, 0), 1, 1, 0, 0, lost},
		{meter(great, 1, 1, 0), 0, most - 1, most - 1, most - 1, impl.OK},
		{meter(great, 1, 1, most-1), 1, most - 1, most, most, impl.OK},
		{meter(great, 1, 1, most-1), 2, 0, 0, 0, lost},
		{meter(great, 1, 3, 0), 0, 333333333333, 999999999999, most, impl.OK}, // up to MaxCount, though one more would show it, too
		{meter(great, 1, 3, 0), 0, 333333333332, 999999999996, 999999999998, impl.OK},
		{meter(great, 1, 3, 0), 0, 333333333334, 0, 0, lost},
		{meter(great, 1, 1000, 0), 0, 1000000000, most, most, impl.OK},
		{meter(great, 1, 1000, 0), 0, 999999999, most - 1000, most - 1, impl.OK},
		{meter(great, 1, 1000, 0), 0, 1000000001, 0, 0, lost},
		{meter(great, 1000, 1, 0), 1000, 0, most, most, impl.OK},
		{meter(great, 1000, 1, 0), 999, most - 1000, most - 1, most - 1, impl.OK},
		{meter(great, 1000, 1, 0), 1000, 1, 0, 0, lost},
		{meter(great, 1000, 1, 0), 1001, 0, 0, 0, lost},
		{meter(great, 1, 1, 0), most, 0, 0, 0, lost}, // what would be counted is far beyond
		{meter(great, 1, 1, 0), most, most - 1, 0, 0, lost},
		{meter(great, 1000, 1, 0), 18446744, 73709551616 % most, 0, 0, lost},
		{meter(impl.Stack{64, 64, 64, 64, 64}, 1, 1, 0), 1 << 34, 5, 0, 0, lost}, // 2^64 is 0 in 64 bits
		{meter(impl.Stack{64, 64, 64, 64, 64}, 1000, 1, 0), 1 << 34, 1000, 0, 0, lost},
		{meter(impl.Stack{64, 64, 64, 64, 64}, 1, 1000, 0), 1 << 34, 5, 0, 0, lost},
		{meter(impl.Stack{64, 64, 64, 64, 64}, 1, 1, 5), 1 << 33, 5, 0, 0, lost},
	}
	for _, x := range tests {
		low, high, code := impl.FlowsFor(x.m, x.rounds, x.value)
		if low != x.low || high != x.high || code != x.code {
			t.Errorf("FlowsFor(%v, %d, %d) = %d, %d, %d, want %d, %d, %d", x.m, x.rounds, x.value, low, high, code, x.low, x.high, x.code)
		}
		if code == impl.OK {
			checkShown(t, x.m, low, high, x.rounds, x.value)
		}
	}
}

// TestPromise13Shows has meters of which it is told here what they show.
func TestPromise13Shows(t *testing.T) {
	const most = impl.MaxCount
	ten, great, two := impl.Stack{10, 10}, limitStack(), impl.Stack{2}
	tests := []struct {
		m                          impl.Meter
		flow, count, value, rounds int64
	}{
		{meter(ten, 1, 3, 95), 0, 0, 95, 0},
		{meter(ten, 1, 3, 95), 2, 0, 95, 0},
		{meter(ten, 1, 3, 95), 3, 1, 96, 0},
		{meter(ten, 1, 3, 95), 10, 3, 98, 0},
		{meter(ten, 1, 3, 95), 14, 4, 99, 0},
		{meter(ten, 1, 3, 95), 15, 5, 0, 1}, // just a size
		{meter(ten, 1, 3, 95), 24, 8, 3, 1},
		{meter(ten, 1, 1, 0), 99, 99, 99, 0},
		{meter(ten, 1, 1, 0), 100, 100, 0, 1},
		{meter(ten, 1, 1, 99), 1, 1, 0, 1},
		{meter(ten, 1, 1, 99), 201, 201, 0, 3},
		{meter(ten, 2, 3, 0), 2, 1, 1, 0},
		{meter(ten, 1000, 1, 0), 1, 1000, 0, 10},
		{meter(ten, 1, 1000, 0), 999, 0, 0, 0},
		{meter(ten, 1, 1000, 0), 1000, 1, 1, 0},
		{meter(ten, 999, 1000, 0), 1000, 999, 99, 9},
		{meter(great, 1, 1, 0), most, most, 0, 1},
		{meter(great, 1, 1, most-1), most, most, most - 1, 1},
		{meter(great, 1000, 1, most-1), most, 1000 * most, most - 1, 1000},
		{meter(great, 1, 1000, 0), most, most / 1000, most / 1000, 0},
		{meter(two, 1000, 1, 1), most, 1000 * most, 1, 500 * most},
		{meter(two, 1000, 3, 1), most, 333333333333333, 0, 166666666666667},
		{meter(two, 1, 1, 0), most, most, 0, most / 2},
	}
	for _, x := range tests {
		if count, code := impl.CountAfter(x.m, x.flow); count != x.count || code != impl.OK {
			t.Errorf("CountAfter(%v, %d) = %d, %d, want %d", x.m, x.flow, count, code, x.count)
		}
		if value, rounds, code := impl.ShowsAfter(x.m, x.flow); value != x.value || rounds != x.rounds || code != impl.OK {
			t.Errorf("ShowsAfter(%v, %d) = %d, %d, %d, want %d, %d", x.m, x.flow, value, rounds, code, x.value, x.rounds)
		}
	}
}

// TestPromise13Errors checks what is refused, and in which order.
func TestPromise13Errors(t *testing.T) {
	for _, m := range []impl.Meter{meter(impl.Stack{10, 10}, 1, 3, 95), meter(impl.Stack{10, 10}, 1000, 1, 0), meter(limitStack(), 1, 1000, 7)} {
		size, _ := impl.SizeOf(m.Stack)
		for _, bad := range badNumbers(impl.MaxCount) {
			count, one := impl.CountAfter(m, bad)
			value, rounds, two := impl.ShowsAfter(m, bad)
			mustCode(t, fmt.Sprint("CountAfter of ", bad), one, impl.ErrRange)
			mustCode(t, fmt.Sprint("ShowsAfter of ", bad), two, impl.ErrRange)
			if count != 0 || value != 0 || rounds != 0 {
				t.Errorf("behind the flow %d: %d, %d, %d", bad, count, value, rounds)
			}
			for _, value := range []int64{0, 1, 95, 99, size - 1, size, -1} { // even where nothing would be found
				flowsRefused(t, m, bad, value, impl.ErrRange)
			}
		}
		for _, bad := range append(badNumbers(size-1), size+1, size+5) {
			for _, rounds := range []int64{0, 1, 5, impl.MaxCount, impl.MaxCount + 1, -1} {
				flowsRefused(t, m, rounds, bad, impl.ErrRange)
			}
		}
	}
	for _, bad := range badMeters() {
		for _, n := range []int64{0, 1, 95, impl.MaxCount, impl.MaxCount + 1, -1, math.MinInt64, math.MaxInt64} {
			count, one := impl.CountAfter(bad, n)
			value, rounds, two := impl.ShowsAfter(bad, n)
			mustCode(t, fmt.Sprint("CountAfter of a bad meter and ", n), one, impl.ErrInvalid)
			mustCode(t, fmt.Sprint("ShowsAfter of a bad meter and ", n), two, impl.ErrInvalid)
			if count != 0 || value != 0 || rounds != 0 {
				t.Errorf("a bad meter shows %d, %d, %d", count, value, rounds)
			}
			flowsRefused(t, bad, 0, n, impl.ErrInvalid)
			flowsRefused(t, bad, n, 0, impl.ErrInvalid)
			flowsRefused(t, bad, n, n, impl.ErrInvalid)
		}
	}
}

func flowsRefused(t *testing.T, m impl.Meter, rounds, value, want int64) {
	t.Helper()
	low, high, code := impl.FlowsFor(m, rounds, value)
	if low != 0 || high != 0 || code != want {
		t.Errorf("FlowsFor(%v.., %d, %d, %d, %d, %d) = %d, %d, %d, want the code %d", m.Stack[:min(len(m.Stack), 9)], m.Num, m.Den, m.Start, rounds, value, low, high, code, want)
	}
}
