package tests

import (
	"fmt"
	"math"
	"slices"
	"testing"

	"loop.example/g01278/impl"
)

// tightestByTrial tries all flows with the least High, and returns the one with the
// least High of at most most, and the greatest Low, or false.
func tightestByTrial(s impl.Stack, log []impl.Reading, most int64) (impl.Flow, bool) {
	for high := int64(0); high <= most; high++ {
		for low := high; low >= 0; low-- {
			if len(gapsOf(s, log, flow(low, high)).suspects()) == 0 {
				return flow(low, high), true
			}
		}
	}
	return impl.Flow{}, false
}

// TestPromise10All tries all flows of many logs.
func TestPromise10All(t *testing.T) {
	greater := 0
	for _, s := range []impl.Stack{{2}, {7}, {3, 2}, {4, 5}, {2, 3, 4}} {
		for seed := range uint64(40) {
			log := madeLog(s, int(seed%5), seed*31)
			want, ok := tightestByTrial(s, log, 30)
			if !ok {
				t.Fatalf("no flow for %v: each count is one of less than 30", log)
			}
			if want.Low > 0 && want.Low < want.High {
				greater++
			}
			for most := want.High; most <= want.High+3; most++ {
				if f, code := impl.TightestFlow(s, log, most); f != want || code != impl.OK {
					t.Fatalf("TightestFlow(%v, %v, %d) = %v, %d, want %v", s, log, most, f, code, want)
				}
			}
			for most := int64(0); most < want.High; most++ {
				if f, code := impl.TightestFlow(s, log, most); f != (impl.Flow{}) || code != impl.ErrNotFound {
					t.Fatalf("TightestFlow(%v, %v, %d) = %v, %d, but High is %d at least", s, log, most, f, code, want.High)
				}
			}
		}
	}
	if greater < 10 {
		t.Errorf("%d logs whose Low is neither 0 nor High", greater)
	}
}

// TestPromise10Suspects checks that with the tightest flow a log has no suspects, and
// with a lesser High, or a greater Low, it has some.
func TestPromise10Suspects(t *testing.T) {
	for _, s := range []impl.Stack{{2}, {7}, {4, 5}, {10, 10}, {60, 60, 24}, {100, 100, 10}} {
		for seed := range uint64(60) {
			log := madeLog(s, 2+int(seed)%39, seed*17)
			f, code := impl.TightestFlow(s, log, impl.MaxFlow)
			if code != impl.OK || !impl.ValidFlow(f) {
				t.Fatalf("TightestFlow(%v, %v) = %v, %d", s, log, f, code)
			}
			checkTight(t, s, log, f)
		}
	}
}

func checkTight(t *testing.T, s impl.Stack, log []impl.Reading, f impl.Flow) {
	t.Helper()
	if list, code := impl.SuspectsOf(s, log, f); len(list) > 0 || code != impl.OK {
		t.Fatalf("SuspectsOf(%v, %v, %v) = %v, %d", s, log, f, list, code)
	}
	var less []impl.Flow
	for low := f.Low + 1; low <= f.High; low++ {
		less = append(less, flow(low, f.High))
		if low > f.Low+20 {
			break
		}
	}
	if f.High > 0 {
		less = append(less, flow(0, f.High-1), flow(0, f.High/2), flow(f.High-1, f.High-1), flow(0, 0))
	}
	for _, other := range less {
		if list, code := impl.SuspectsOf(s, log, other); len(list) == 0 || code != impl.OK {
			t.Fatalf("SuspectsOf(%v, %v, %v) = %v, %d, but the tightest flow is %v", s, log, other, list, code, f)
		}
	}
}

func TestPromise10ByHand(t *testing.T) {
	ten, great, most := impl.Stack{10, 10}, limitStack(), int64(impl.MaxFlow)
	ends := func(from, to int64) []impl.Reading {
		return []impl.Reading{reading(0, from), reading(impl.MaxLogDay, to)}
	}
	tests := []struct {
		s    impl.Stack
		log  []impl.Reading
		most int64
		want impl.Flow
		code int64
	}{
		{ten, daily(10, 13, 15), 100, flow(2, 3), impl.OK},
		{ten, daily(10, 13, 15), 3, flow(2, 3), impl.OK}, // just most
		{ten, daily(10, 13, 15), 2, flow(0, 0), impl.ErrNotFound},
		{ten, daily(10, 13, 15), 0, flow(0, 0), impl.ErrNotFound},
		{ten, daily(10, 13, 13), 3, flow(0, 3), impl.OK}, // a Low of 0
		{ten, daily(10, 13, 13), 2, flow(0, 0), impl.ErrNotFound},
		{ten, daily(10, 13, 16), 3, flow(3, 3), impl.OK},
		{ten, daily(10, 10, 10), 0, flow(0, 0), impl.OK},
		{ten, daily(10, 10, 10), most, flow(0, 0), impl.OK},
		{ten, nil, 0, flow(0, 0), impl.OK}, // no readings
		{ten, nil, most, flow(0, 0), impl.OK},
		{ten, daily(7), 0, flow(0, 0), impl.OK}, // one reading
		{ten, daily(7), most, flow(0, 0), impl.OK},
		{ten, daily(98, 1, 5), 10, flow(3, 4), impl.OK}, // over 99
		{ten, daily(20, 10), most, flow(90, 90), impl.OK},
		{ten, daily(20, 10), 90, flow(90, 90), impl.OK},
		{ten, daily(20, 10), 89, flow(0, 0), impl.ErrNotFound},
		{ten, []impl.Reading{reading(0, 10), reading(3, 20)}, 4, flow(3, 4), impl.OK}, // 10 in 3 days
		{ten, []impl.Reading{reading(0, 10), reading(3, 20)}, 3, flow(0, 0), impl.ErrNotFound},
		{ten, []impl.Reading{reading(0, 10), reading(3, 19)}, 3, flow(3, 3), impl.OK},                     // 9 in 3 days
		{ten, []impl.Reading{reading(0, 10), reading(1, 60), reading(4, 60)}, 50, flow(33, 50), impl.OK},  // a round in 3 days
		{ten, []impl.Reading{reading(0, 10), reading(1, 60), reading(11, 60)}, 50, flow(50, 50), impl.OK}, // 5 rounds in 10
		{ten, []impl.Reading{reading(0, 10), reading(1, 60), reading(10, 60)}, 50, flow(44, 50), impl.OK}, // 4 rounds in 9
		{ten, []impl.Reading{reading(0, 10), reading(1, 11), reading(100, 11)}, 1, flow(0, 1), impl.OK},
		{ten, []impl.Reading{reading(0, 10), reading(1, 11), reading(101, 11)}, 1, flow(1, 1), impl.OK},
		{ten, ends(0, 1), most, flow(0, 1), impl.OK},
		{great, ends(0, 100000000000), most, flow(most, most), impl.OK}, // just MaxFlow
		{great, ends(0, 100000000000), most - 1, flow(0, 0), impl.ErrNotFound},
		{great, ends(0, 100000000001), most, flow(0, 0), impl.ErrNotFound},
		{great, ends(7, 100000000006), most, flow(most-1, most), impl.OK},
		{great, daily(0, most), most, flow(most, most), impl.OK},
		{great, daily(0, most+1), most, flow(0, 0), impl.ErrNotFound},
		{great, daily(impl.MaxCount-1, 0), most, flow(1, 1), impl.OK},
		{great, daily(0, impl.MaxCount-1), most, flow(0, 0), impl.ErrNotFound},
		{great, daily(1, 0), most, flow(0, 0), impl.ErrNotFound},
		{impl.Stack{2}, daily(0, 1, 0, 1), most, flow(1, 1), impl.OK},
		{impl.Stack{2}, daily(0, 1, 1, 0), most, flow(0, 1), impl.OK},
		{ten, daily(10, 13, 15), -1, flow(0, 0), impl.ErrRange},
		{ten, daily(10, 13, 15), most + 1, flow(0, 0), impl.ErrRange},
		{ten, daily(10, 13, 15), math.MinInt64, flow(0, 0), impl.ErrRange},
		{ten, daily(10, 13, 15), math.MaxInt64, flow(0, 0), impl.ErrRange},
		{ten, daily(10, 13, 15), 1 << 32, flow(0, 0), impl.ErrRange},
		{ten, nil, -1, flow(0, 0), impl.ErrRange},
		{great, daily(1, 0), most + 1, flow(0, 0), impl.ErrRange}, // a range ahead of what is not found
		{great, daily(1, 0), -1, flow(0, 0), impl.ErrRange},
	}
	for _, x := range tests {
		f, code := impl.TightestFlow(x.s, x.log, x.most)
		if f != x.want || code != x.code {
			t.Errorf("TightestFlow(%v, %v, %d) = %v, %d, want %v, %d", x.s, x.log, x.most, f, code, x.want, x.code)
		}
		if code == impl.OK {
			checkTight(t, x.s, x.log, f)
		}
	}
}

// TestPromise10MaxLog has a log of just MaxLog readings.
func TestPromise10MaxLog(t *testing.T) {
	var values []int64
	for i := range int64(impl.MaxLog) {
		values = append(values, i*i%1000)
	}
	s := impl.Stack{10, 10, 10}
	if f, code := impl.TightestFlow(s, daily(values...), 77); f != flow(1, 77) || code != impl.OK {
		t.Errorf("TightestFlow is %v, %d", f, code)
	}
	if f, code := impl.TightestFlow(s, daily(values...), 76); f != flow(0, 0) || code != impl.ErrNotFound {
		t.Errorf("TightestFlow with one less is %v, %d", f, code)
	}
}

// TestPromise10Invalid checks that stacks and logs that are not valid come ahead of
// every other error.
func TestPromise10Invalid(t *testing.T) {
	refused := func(name string, s impl.Stack, log []impl.Reading) {
		t.Helper()
		for _, most := range []int64{0, 100, impl.MaxFlow, -1, impl.MaxFlow + 1, math.MinInt64} {
			f, code := impl.TightestFlow(s, log, most)
			mustCode(t, fmt.Sprint("TightestFlow of ", name), code, impl.ErrInvalid)
			if f != (impl.Flow{}) {
				t.Errorf("TightestFlow of %s is %v", name, f)
			}
		}
		list, code := impl.SuspectsOf(s, log, flow(0, 5))
		mustCode(t, fmt.Sprint("SuspectsOf of ", name), code, impl.ErrInvalid)
		if len(list) > 0 {
			t.Errorf("SuspectsOf of %s is %v", name, list)
		}
	}
	for i, bad := range badStacks() {
		refused(fmt.Sprint("the bad stack ", i), bad, daily(0, 1))
		refused(fmt.Sprint("the bad stack ", i), bad, nil)
	}
	for i, bad := range badLogs() {
		refused(fmt.Sprint("the bad log ", i), impl.Stack{10, 10}, bad)
	}
	for _, bad := range badFlows() {
		for _, log := range [][]impl.Reading{nil, daily(7), daily(10, 90)} {
			list, code := impl.SuspectsOf(impl.Stack{10, 10}, log, bad)
			mustCode(t, fmt.Sprint("SuspectsOf with ", bad), code, impl.ErrInvalid)
			if len(list) > 0 {
				t.Errorf("SuspectsOf with %v is %v", bad, list)
			}
		}
	}
}

// TestPromise10SuspectsByTrial checks SuspectsOf against counts by trial.
func TestPromise10SuspectsByTrial(t *testing.T) {
	for _, s := range []impl.Stack{{2}, {7}, {4, 5}, {10, 10}} {
		for _, f := range smallFlows() {
			for seed := range uint64(8) {
				log := madeLog(s, int(seed*5), seed)
				want := gapsOf(s, log, f).suspects()
				if list, code := impl.SuspectsOf(s, log, f); !slices.Equal(list, want) || code != impl.OK {
					t.Fatalf("SuspectsOf(%v, %v, %v) = %v, %d, want %v", s, log, f, list, code, want)
				}
			}
		}
	}
}
