package tests

import (
	"fmt"
	"math"
	"slices"
	"testing"

	"loop.example/g01278/impl"
)

// storyStacks and storyFlows give logs in which some counts are possible, and some not.
func storyStacks() []impl.Stack {
	return []impl.Stack{{2}, {7}, {3, 2}, {10, 2}, {4, 5}, {2, 3, 4}}
}

func storyFlows() []impl.Flow {
	return []impl.Flow{flow(0, 0), flow(0, 1), flow(1, 1), flow(1, 2), flow(0, 3), flow(2, 4)}
}

// TestPromise9All tries all stories of many logs, with all breaks.
func TestPromise9All(t *testing.T) {
	ties := map[string]int{}
	for _, s := range storyStacks() {
		for _, f := range storyFlows() {
			for seed := range uint64(20) {
				for n := range 7 {
					log := madeLog(s, n, seed*77+uint64(n))
					checkStories(t, s, log, f, gapsOf(s, log, f).stories(true), ties)
				}
			}
		}
	}
	if ties["cost"] < 100 || ties["breaks"] < 100 {
		t.Errorf("too few stories that are second by breaks, or by Kept, alone: %v", ties)
	}
}

// TestPromise9Longer tries all stories of longer logs, with the breaks they need.
func TestPromise9Longer(t *testing.T) {
	ties := map[string]int{}
	for i, s := range append(storyStacks(), impl.Stack{10, 10}, impl.Stack{20, 3}) {
		for j, f := range storyFlows() {
			for seed := range uint64(3) {
				log := madeLog(s, 8+(i+j)%4, seed*1001+uint64(i*10+j))
				checkStories(t, s, log, f, gapsOf(s, log, f).stories(false), ties)
			}
		}
	}
	for seed := range uint64(250) {
		s, f, log := impl.Stack{10, 10}, flow(1, 2), brokenLog(8+int(seed%4), seed)
		checkStories(t, s, log, f, gapsOf(s, log, f).stories(false), ties)
	}
	if ties["cost, broken"] < 10 || ties["breaks, broken"] < 10 {
		t.Errorf("too few stories that are second to one with breaks: %v", ties)
	}
}

// checkStories checks what is told of the stories of a log against a list that has
// all of them, or at least all that may be the best.
func checkStories(t *testing.T, s impl.Stack, log []impl.Reading, f impl.Flow, list []impl.Story, ties map[string]int) {
	t.Helper()
	best := slices.MinFunc(list, compareStories)
	if x := mustStory(t, s, log, f); !sameStory(x, best) {
		t.Fatalf("BestStory(%v, %v, %v) = %s, want %s", s, log, f, storyText(x), storyText(best))
	}
	least := map[int64]bool{}
	without := make([]int64, len(log))
	for i := range without {
		without[i] = math.MaxInt64
	}
	for _, x := range list {
		if ok, code := impl.CheckStory(s, log, f, x); !ok || code != impl.OK {
			t.Fatalf("CheckStory(%v, %v, %v, %s) = %v, %d", s, log, f, storyText(x), ok, code)
		}
		for i := range log {
			if !slices.Contains(x.Kept, int64(i)) {
				without[i] = min(without[i], x.Cost)
			} else if x.Cost == best.Cost {
				least[int64(i)] = true
			}
		}
		countTies(ties, x, best)
	}
	checkMisreads(t, s, log, f, least)
	for i := range log {
		code := int64(impl.OK)
		if len(log) == 1 {
			without[i], code = 0, impl.ErrNotFound
		}
		if cost, c := impl.CostWithout(s, log, f, int64(i)); cost != without[i] || c != code {
			t.Fatalf("CostWithout(%v, %v, %v, %d) = %d, %d, want %d, %d", s, log, f, i, cost, c, without[i], code)
		}
	}
}

// countTies counts stories that are second to the best one, but cost as much.
func countTies(ties map[string]int, x, best impl.Story) {
	if x.Cost != best.Cost || sameStory(x, best) {
		return
	}
	kind := "breaks"
	if len(x.Breaks) != len(best.Breaks) {
		kind = "cost"
	}
	ties[kind]++
	if len(best.Breaks) > 0 {
		ties[kind+", broken"]++
	}
}

// checkMisreads checks SureMisreads against the readings that are in some story with
// the least cost.
func checkMisreads(t *testing.T, s impl.Stack, log []impl.Reading, f impl.Flow, least map[int64]bool) {
	t.Helper()
	var want []int64
	for i := range log {
		if !least[int64(i)] {
			want = append(want, int64(i))
		}
	}
	if list, code := impl.SureMisreads(s, log, f); !slices.Equal(list, want) || code != impl.OK {
		t.Fatalf("SureMisreads(%v, %v, %v) = %v, %d, want %v", s, log, f, list, code, want)
	}
}

// TestPromise9Long finds stories of logs with up to MaxLog readings from the first
// reading on.
func TestPromise9Long(t *testing.T) {
	for i, s := range []impl.Stack{{7}, {10, 2}, {4, 5}, {10, 10}, {2, 3, 4}} {
		for j, f := range append(storyFlows(), flow(1, 5), flow(3, 3)) {
			for seed := range uint64(4) {
				log := madeLog(s, impl.MaxLog-int(seed)*7, seed*13+uint64(i*100+j))
				checkLong(t, s, log, f)
			}
		}
	}
}

// TestPromise9LongBroken does so for logs that have been set to anything several times.
func TestPromise9LongBroken(t *testing.T) {
	for seed := range uint64(40) {
		checkLong(t, impl.Stack{10, 10}, brokenLog(impl.MaxLog-int(seed%3), seed), flow(1, 2))
	}
}

func checkLong(t *testing.T, s impl.Stack, log []impl.Reading, f impl.Flow) {
	t.Helper()
	g := gapsOf(s, log, f)
	want := g.bestForward()
	x := mustStory(t, s, log, f)
	if !sameStory(x, want) {
		t.Fatalf("BestStory(%v, %v, %v) = %s, want %s", s, log, f, storyText(x), storyText(want))
	}
	if ok, code := impl.CheckStory(s, log, f, x); !ok || code != impl.OK {
		t.Fatalf("the best story %s of %v is not as told: code %d", storyText(x), log, code)
	}
	sure, code := impl.SureMisreads(s, log, f)
	if code != impl.OK {
		t.Fatalf("SureMisreads(%v, %v, %v): code %d", s, log, f, code)
	}
	for i := range log {
		want := g.without(i).bestForward().Cost + 1
		cost, code := impl.CostWithout(s, log, f, int64(i))
		if cost != want || cost < x.Cost || code != impl.OK {
			t.Fatalf("CostWithout(%v, %v, %v, %d) = %d, %d, want %d", s, log, f, i, cost, code, want)
		}
		kept, misread := slices.Contains(x.Kept, int64(i)), slices.Contains(sure, int64(i))
		// Without a reading that is not kept anyway, nothing costs more.
		if kept && misread || !kept && cost != x.Cost || misread && cost != x.Cost {
			t.Fatalf("%v with %v: the reading %d is kept %v, sure misread %v, and without it the cost is %d, not %d", log, f, i, kept, misread, cost, x.Cost)
		}
	}
}

func TestPromise9ByHand(t *testing.T) {
	f := flow(1, 5)
	tests := []struct {
		log    []impl.Reading
		f      impl.Flow
		kept   []int64
		breaks []int64
		cost   int64
		sure   []int64
	}{
		{nil, f, nil, nil, 0, nil},
		{daily(7), f, []int64{0}, nil, 0, nil},
		{daily(10, 12), f, []int64{0, 1}, nil, 0, nil},
		{daily(10, 12, 90, 16), f, []int64{0, 1, 3}, nil, 1, []int64{2}},
		{daily(10, 90), f, []int64{0}, nil, 1, nil},                   // a misread costs less than a break: the first of both
		{daily(10, 50, 90), f, []int64{0}, nil, 2, nil},               // any one, or two with a break; fewest breaks
		{daily(10, 12, 50, 52), f, []int64{0, 1}, nil, 2, nil},        // two misreads, rather than one break
		{daily(10, 12, 50, 52, 54), f, []int64{2, 3, 4}, nil, 2, nil}, // the longer one
		{daily(10, 12, 14, 50, 52, 54), f, []int64{0, 1, 2, 3, 4, 5}, []int64{3}, 2, nil},
		{daily(10, 12, 14, 50, 52), f, []int64{0, 1, 2}, nil, 2, nil},
		{daily(10, 12, 14, 90, 50, 52, 54), f, []int64{0, 1, 2, 4, 5, 6}, []int64{4}, 3, []int64{3}},
		{daily(60, 10, 12, 14), f, []int64{1, 2, 3}, nil, 1, []int64{0}},
		{daily(10, 12, 14, 60), f, []int64{0, 1, 2}, nil, 1, []int64{3}},
		{daily(10, 13, 12, 15), f, []int64{0, 1, 3}, nil, 1, nil},        // 13 or 12, the first of both
		{daily(10, 14, 11, 18), f, []int64{0, 1, 3}, nil, 1, []int64{2}}, // 18 is too far from 11
		{daily(10, 10, 10), f, []int64{0}, nil, 2, nil},
		{daily(10, 10, 10), flow(0, 0), []int64{0, 1, 2}, nil, 0, nil},
		{daily(98, 1, 4), f, []int64{0, 1, 2}, nil, 0, nil}, // over 99
		{daily(10, 11, 12, 80, 81, 82, 60, 61, 62), f, []int64{0, 1, 2, 3, 4, 5, 6, 7, 8}, []int64{3, 6}, 4, nil},
		{daily(10, 80, 11, 81, 12, 82), flow(0, 1), []int64{0, 2, 4}, nil, 3, nil},
		{daily(80, 10, 11, 81, 12), flow(0, 1), []int64{1, 2, 4}, nil, 2, []int64{0, 3}},
		{[]impl.Reading{reading(0, 10), reading(20, 90), reading(21, 91)}, f, []int64{0, 1, 2}, nil, 0, nil},     // 80 in 20 days
		{[]impl.Reading{reading(0, 10), reading(15, 90), reading(21, 91)}, f, []int64{0, 2}, nil, 1, []int64{1}}, // but not in 15
	}
	s := impl.Stack{10, 10}
	for _, x := range tests {
		want := impl.Story{Kept: x.kept, Breaks: x.breaks, Cost: x.cost}
		if got := mustStory(t, s, x.log, x.f); !sameStory(got, want) {
			t.Errorf("BestStory of %v with %v: %s, want %s", x.log, x.f, storyText(got), storyText(want))
		}
		if list, code := impl.SureMisreads(s, x.log, x.f); !slices.Equal(list, x.sure) || code != impl.OK {
			t.Errorf("SureMisreads of %v with %v: %v, %d, want %v", x.log, x.f, list, code, x.sure)
		}
	}
}

// TestPromise9MaxLog has a log of just MaxLog readings with known faults.
func TestPromise9MaxLog(t *testing.T) {
	s, f := impl.Stack{100, 100, 100}, flow(3, 9)
	var log []impl.Reading
	want := impl.Story{Breaks: []int64{20}, Cost: 5}
	for i := range int64(impl.MaxLog) {
		r := reading(i*2, 500+i*10)
		switch {
		case i == 0 || i == 13 || i == 39:
			r.Value += 700000
		case i >= 20:
			r.Value -= 400 // set back
		}
		log = append(log, r)
		if i != 0 && i != 13 && i != 39 {
			want.Kept = append(want.Kept, i)
		}
	}
	x := mustStory(t, s, log, f)
	if !sameStory(x, want) {
		t.Errorf("BestStory is %s, want %s", storyText(x), storyText(want))
	}
	if list, code := impl.SureMisreads(s, log, f); !slices.Equal(list, []int64{0, 13, 39}) || code != impl.OK {
		t.Errorf("SureMisreads is %v, %d", list, code)
	}
	// 18 gaps of 10 or 20 counts up to the break, 18 behind it: 180 each.
	if low, high, code := impl.TotalOfStory(s, log, f, x); low != 360 || high != 360 || code != impl.OK {
		t.Errorf("TotalOfStory is %d, %d, %d", low, high, code)
	}
	if cost, code := impl.CostWithout(s, log, f, 20); cost != 6 || code != impl.OK {
		t.Errorf("CostWithout 20 is %d, %d", cost, code)
	}
	if cost, code := impl.CostWithout(s, log, f, 39); cost != 5 || code != impl.OK {
		t.Errorf("CostWithout 39 is %d, %d", cost, code)
	}
}

// listsOf returns all lists of at most length numbers from -1 to most.
func listsOf(most int64, length int) [][]int64 {
	all := [][]int64{nil}
	for from, n := 0, 0; n < length; n++ {
		end := len(all)
		for _, list := range all[from:end] {
			for i := int64(-1); i <= most; i++ {
				all = append(all, append(slices.Clone(list), i))
			}
		}
		from = end
	}
	return all
}

// TestPromise9Checked gives CheckStory all stories with short lists, most of which
// are none, and TotalOfStory as well.
func TestPromise9Checked(t *testing.T) {
	s, f := impl.Stack{10, 10}, flow(1, 5)
	logs := [][]impl.Reading{nil, daily(7), daily(10, 12), daily(10, 90), daily(10, 12, 14), daily(10, 12, 90), daily(10, 90, 14), daily(90, 10, 14)}
	for _, log := range logs {
		told := map[string]bool{}
		for _, x := range gapsOf(s, log, f).stories(true) {
			told[storyText(x)] = true
		}
		lists := listsOf(int64(len(log)), 3)
		for _, kept := range lists {
			for _, breaks := range lists {
				for cost := int64(-1); cost <= 7; cost++ {
					checkOne(t, s, log, f, impl.Story{Kept: kept, Breaks: breaks, Cost: cost}, told)
				}
			}
		}
	}
}

func checkOne(t *testing.T, s impl.Stack, log []impl.Reading, f impl.Flow, x impl.Story, told map[string]bool) {
	t.Helper()
	want, code := told[storyText(x)], int64(impl.OK)
	if ok, c := impl.CheckStory(s, log, f, x); ok != want || c != impl.OK {
		t.Fatalf("CheckStory(%v, %v, %s) = %v, %d, want %v", log, f, storyText(x), ok, c, want)
	}
	if !want {
		code = impl.ErrState
	}
	if low, high, c := impl.TotalOfStory(s, log, f, x); c != code || !want && (low != 0 || high != 0) {
		t.Fatalf("TotalOfStory(%v, %v, %s) = %d, %d, %d, want the code %d", log, f, storyText(x), low, high, c, code)
	}
}

func TestPromise9CheckedByHand(t *testing.T) {
	s, f := impl.Stack{10, 10}, flow(1, 5)
	log := daily(10, 12, 90, 16, 50)
	tests := []struct {
		kept, breaks []int64
		cost         int64
		want         bool
	}{
		{[]int64{0, 1, 3}, nil, 2, true},
		{[]int64{0, 1, 3}, nil, 1, false}, // the cost is told wrong
		{[]int64{0, 1, 3}, nil, 3, false},
		{[]int64{0, 1, 3}, nil, 2 + 1<<32, false},
		{[]int64{0, 1, 3}, []int64{3}, 4, true},  // a break where a count is possible
		{[]int64{0, 1, 3}, []int64{3}, 2, false}, // it costs all the same
		{[]int64{0, 1, 3}, []int64{1, 3}, 6, true},
		{[]int64{0, 1, 3}, []int64{0}, 4, false}, // before the first one of Kept
		{[]int64{0, 1, 3}, []int64{0, 1, 3}, 8, false},
		{[]int64{1, 3}, []int64{1}, 5, false},
		{[]int64{0, 1, 3}, []int64{2}, 4, false},    // not in Kept
		{[]int64{0, 1, 3}, []int64{4}, 4, false},    // likewise
		{[]int64{0, 1, 3}, []int64{3, 3}, 6, false}, // twice
		{[]int64{0, 1, 3}, []int64{3, 3}, 4, false}, // likewise
		{[]int64{0, 1, 3}, []int64{3, 1}, 6, false}, // out of order
		{[]int64{0, 1, 3}, []int64{5}, 4, false},    // no reading
		{[]int64{0, 1, 3}, []int64{-1}, 4, false},   // likewise
		{[]int64{0, 1, 2}, nil, 2, false},           // no count is possible
		{[]int64{0, 1, 2}, []int64{2}, 4, true},     // but behind a break
		{[]int64{0, 1, 2}, []int64{1}, 4, false},    // not behind this one
		{[]int64{0, 1, 2, 3, 4}, []int64{2, 3, 4}, 6, true},
		{[]int64{0, 1, 2, 3, 4}, []int64{2, 3}, 4, false},
		{[]int64{0, 1, 2, 3, 4}, []int64{2, 4}, 4, false},
		{[]int64{0, 1, 2, 3, 4}, []int64{3, 4}, 4, false},
		{[]int64{0, 1, 2, 3, 4}, []int64{1, 2, 3, 4}, 8, true},
		{[]int64{4}, nil, 4, true},
		{[]int64{0}, nil, 4, true},
		{[]int64{0}, nil, 0, false},
		{nil, nil, 5, false}, // no reading is kept
		{nil, nil, 0, false},
		{nil, []int64{0}, 7, false},
		{[]int64{1, 0, 3}, nil, 2, false}, // out of order
		{[]int64{0, 0, 1, 3}, nil, 1, false},
		{[]int64{0, 1, 3, 3}, nil, 1, false},
		{[]int64{0, 1, 1}, nil, 2, false},
		{[]int64{0, 1, 5}, nil, 2, false}, // no reading
		{[]int64{-1, 0, 1}, nil, 2, false},
		{[]int64{math.MinInt64, 0, 1}, nil, 2, false},
		{[]int64{0, 1, math.MaxInt64}, nil, 2, false},
		{[]int64{0, 1, 1 << 32}, nil, 2, false},
		{[]int64{0, 1, 3}, []int64{math.MinInt64}, 4, false},
		{[]int64{0, 1, 3}, []int64{math.MaxInt64}, 4, false},
		{[]int64{0, 1, 3}, nil, math.MinInt64, false},
		{[]int64{0, 1, 3}, nil, math.MaxInt64, false},
		{make([]int64, 500000), make([]int64, 400000), 2, false},
		{[]int64{0, 1, 3}, make([]int64, 900000), 2, false},
	}
	for _, x := range tests {
		story := impl.Story{Kept: x.kept, Breaks: x.breaks, Cost: x.cost}
		name := fmt.Sprint(x.kept[:min(len(x.kept), 9)], x.breaks[:min(len(x.breaks), 9)], x.cost)
		if ok, code := impl.CheckStory(s, log, f, story); ok != x.want || code != impl.OK {
			t.Errorf("CheckStory %s: %v, %d, want %v", name, ok, code, x.want)
		}
		code := int64(impl.OK)
		if !x.want {
			code = impl.ErrState
		}
		if low, high, c := impl.TotalOfStory(s, log, f, story); c != code || !x.want && (low != 0 || high != 0) {
			t.Errorf("TotalOfStory %s: %d, %d, %d, want the code %d", name, low, high, c, code)
		}
	}
}

// TestPromise9Totals adds what is possible, by trial, up for all stories of some logs.
func TestPromise9Totals(t *testing.T) {
	for _, s := range storyStacks() {
		for _, f := range append(storyFlows(), flow(1, 9)) {
			for seed := range uint64(6) {
				log := madeLog(s, 2+int(seed%4), seed)
				for _, x := range gapsOf(s, log, f).stories(true) {
					checkTotal(t, s, log, f, x)
				}
			}
		}
	}
}

func checkTotal(t *testing.T, s impl.Stack, log []impl.Reading, f impl.Flow, x impl.Story) {
	t.Helper()
	least, greatest := int64(0), int64(0)
	for k := 1; k < len(x.Kept); k++ {
		if !slices.Contains(x.Breaks, x.Kept[k]) {
			counts, _ := countsByTrial(s, log[x.Kept[k-1]], log[x.Kept[k]], f)
			least, greatest = least+counts[0], greatest+counts[len(counts)-1]
		}
	}
	if low, high, code := impl.TotalOfStory(s, log, f, x); low != least || high != greatest || code != impl.OK {
		t.Fatalf("TotalOfStory(%v, %v, %v, %s) = %d, %d, %d, want %d, %d", s, log, f, storyText(x), low, high, code, least, greatest)
	}
}

func TestPromise9TotalsByHand(t *testing.T) {
	ten, great := impl.Stack{10, 10}, limitStack()
	ends := []impl.Reading{reading(0, 0), reading(impl.MaxLogDay, 0)}
	tests := []struct {
		s         impl.Stack
		log       []impl.Reading
		f         impl.Flow
		x         impl.Story
		low, high int64
	}{
		{ten, daily(10, 12, 90, 16), flow(1, 5), impl.Story{Kept: []int64{0, 1, 3}, Cost: 1}, 6, 6},
		{ten, daily(10, 12, 90, 16), flow(1, 5), impl.Story{Kept: []int64{0, 1, 3}, Breaks: []int64{3}, Cost: 3}, 2, 2},
		{ten, daily(10, 12, 90, 16), flow(1, 5), impl.Story{Kept: []int64{0, 1, 3}, Breaks: []int64{1}, Cost: 3}, 4, 4},
		{ten, daily(10, 12, 90, 16), flow(1, 5), impl.Story{Kept: []int64{0, 1, 3}, Breaks: []int64{1, 3}, Cost: 5}, 0, 0},
		{ten, daily(10, 12, 90, 16), flow(0, 300), impl.Story{Kept: []int64{0, 1, 2, 3}}, 2 + 78 + 26, 202 + 278 + 226},
		{ten, daily(10, 12, 90, 16), flow(0, 300), impl.Story{Kept: []int64{2}, Cost: 3}, 0, 0},
		{ten, nil, flow(0, 300), impl.Story{}, 0, 0},
		{ten, ends, flow(0, impl.MaxFlow), impl.Story{Kept: []int64{0, 1}}, 0, 100000000000},
		{ten, ends, flow(impl.MaxFlow, impl.MaxFlow), impl.Story{Kept: []int64{0, 1}}, 100000000000, 100000000000},
		{great, ends, flow(0, impl.MaxFlow), impl.Story{Kept: []int64{0, 1}}, 0, 0},
	}
	for _, x := range tests {
		if low, high, code := impl.TotalOfStory(x.s, x.log, x.f, x.x); low != x.low || high != x.high || code != impl.OK {
			t.Errorf("TotalOfStory of %v, %s: %d, %d, %d, want %d, %d", x.log, storyText(x.x), low, high, code, x.low, x.high)
		}
	}
}

// TestPromise9WithoutErrors checks what CostWithout refuses, and in which order.
func TestPromise9WithoutErrors(t *testing.T) {
	s, f := impl.Stack{10, 10}, flow(1, 5)
	tests := []struct {
		log  []impl.Reading
		i    int64
		cost int64
		code int64
	}{
		{nil, 0, 0, impl.ErrRange},
		{nil, -1, 0, impl.ErrRange},
		{daily(7), 0, 0, impl.ErrNotFound},
		{daily(7), 1, 0, impl.ErrRange}, // a range ahead of what is not found
		{daily(7), -1, 0, impl.ErrRange},
		{daily(7, 8), 0, 1, impl.OK},
		{daily(7, 8), 1, 1, impl.OK},
		{daily(7, 8), 2, 0, impl.ErrRange},
		{daily(7, 8), -1, 0, impl.ErrRange},
		{daily(7, 8), 1 << 32, 0, impl.ErrRange},
		{daily(7, 8), math.MaxInt64, 0, impl.ErrRange},
		{daily(7, 8), math.MinInt64, 0, impl.ErrRange},
		{daily(10, 12, 90, 16), 2, 1, impl.OK},
		{daily(10, 12, 90, 16), 0, 2, impl.OK},
		{daily(10, 12, 90, 16), 1, 2, impl.OK},
		{daily(10, 12, 90, 16), 3, 2, impl.OK},
		{daily(10, 12, 14, 50, 52, 54), 3, 3, impl.OK},
		{daily(10, 14, 18), 1, 1, impl.OK}, // from 10 to 18 in two days
		{[]impl.Reading{reading(0, 10), reading(1, 15), reading(2, 20)}, 1, 1, impl.OK},
	}
	for _, x := range tests {
		if cost, code := impl.CostWithout(s, x.log, f, x.i); cost != x.cost || code != x.code {
			t.Errorf("CostWithout(%v, %d) = %d, %d, want %d, %d", x.log, x.i, cost, code, x.cost, x.code)
		}
	}
}

// TestPromise9Invalid checks that stacks, logs and flows that are not valid come
// ahead of every other error.
func TestPromise9Invalid(t *testing.T) {
	s, f, none := impl.Stack{10, 10}, flow(1, 5), impl.Story{Kept: []int64{9}, Cost: -1}
	refused := func(name string, s impl.Stack, log []impl.Reading, f impl.Flow) {
		t.Helper()
		x, one := impl.BestStory(s, log, f)
		ok, two := impl.CheckStory(s, log, f, x)
		ok2, three := impl.CheckStory(s, log, f, none)
		cost, four := impl.CostWithout(s, log, f, 0)
		cost2, five := impl.CostWithout(s, log, f, -1)
		sure, six := impl.SureMisreads(s, log, f)
		low, high, seven := impl.TotalOfStory(s, log, f, none)
		codes := []int64{one, two, three, four, five, six, seven}
		if !slices.Equal(codes, []int64{1, 1, 1, 1, 1, 1, 1}) {
			t.Errorf("%s: codes %v", name, codes)
		}
		if ok || ok2 || !sameStory(x, impl.Story{}) || cost != 0 || cost2 != 0 || len(sure) > 0 || low != 0 || high != 0 {
			t.Errorf("%s: there is something together with a code", name)
		}
	}
	for i, bad := range badStacks() {
		refused(fmt.Sprint("stack ", i), bad, daily(0, 1, 0), f)
		refused(fmt.Sprint("stack ", i), bad, nil, f)
	}
	for i, bad := range badLogs() {
		refused(fmt.Sprint("log ", i), s, bad, f)
	}
	for _, bad := range badFlows() {
		refused(fmt.Sprint("flow ", bad), s, daily(10, 12), bad)
		refused(fmt.Sprint("flow ", bad), s, nil, bad)
		refused(fmt.Sprint("flow ", bad), s, daily(10), bad)
	}
}
