package tests

import (
	"fmt"
	"math"
	"reflect"
	"slices"
	"testing"

	"loop.example/g01278/impl"
)

// logInput has an argument for every parameter of chapter 4.
type logInput struct {
	s          impl.Stack
	log, other []impl.Reading
	f          impl.Flow
	a, b       impl.Reading
	n          int64
	x, y       impl.Story
	text       string
}

func (x logInput) String() string {
	return fmt.Sprint(x.s[:min(len(x.s), 9)], x.log[:min(len(x.log), 9)], x.other[:min(len(x.other), 9)], x.f, x.a, x.b, x.n, x.x, x.y, short(x.text))
}

func logCalls() []call[logInput] {
	return []call[logInput]{
		{"ValidLog", false, func(x logInput) []any { return results(impl.ValidLog(x.s, x.log)) }},
		{"SameLog", false, func(x logInput) []any { return results(impl.SameLog(x.log, x.other)) }},
		{"ValidFlow", false, func(x logInput) []any { return results(impl.ValidFlow(x.f)) }},
		{"CountsBetween", true, func(x logInput) []any { a, b, c := impl.CountsBetween(x.s, x.a, x.b, x.f); return results(a, b, c) }},
		{"RoundsBetween", true, func(x logInput) []any { a, b, c := impl.RoundsBetween(x.s, x.a, x.b, x.f); return results(a, b, c) }},
		{"SetBackBy", true, func(x logInput) []any { a, c := impl.SetBackBy(x.s, x.a, x.b, x.f); return results(a, c) }},
		{"GoesBack", true, func(x logInput) []any { a, c := impl.GoesBack(x.s, x.log); return results(a, c) }},
		{"SuspectsOf", true, func(x logInput) []any { a, c := impl.SuspectsOf(x.s, x.log, x.f); return results(a, c) }},
		{"BestStory", true, func(x logInput) []any { a, c := impl.BestStory(x.s, x.log, x.f); return results(a, c) }},
		{"SameStory", false, func(x logInput) []any { return results(impl.SameStory(x.x, x.y)) }},
		{"CheckStory", true, func(x logInput) []any { a, c := impl.CheckStory(x.s, x.log, x.f, x.x); return results(a, c) }},
		{"CostWithout", true, func(x logInput) []any { a, c := impl.CostWithout(x.s, x.log, x.f, x.n); return results(a, c) }},
		{"SureMisreads", true, func(x logInput) []any { a, c := impl.SureMisreads(x.s, x.log, x.f); return results(a, c) }},
		{"TotalOfStory", true, func(x logInput) []any { a, b, c := impl.TotalOfStory(x.s, x.log, x.f, x.x); return results(a, b, c) }},
		{"TightestFlow", true, func(x logInput) []any { a, c := impl.TightestFlow(x.s, x.log, x.n); return results(a, c) }},
		{"StuckSince", true, func(x logInput) []any { a, c := impl.StuckSince(x.s, x.log, x.n); return results(a, c) }},
		{"LogText", false, func(x logInput) []any { return results(impl.LogText(x.s, x.log)) }},
		{"ReadLog", true, func(x logInput) []any { a, c := impl.ReadLog(x.s, x.text); return results(a, c) }},
	}
}

// logInputs has valid and invalid arguments of every kind, mixed.
func logInputs() []logInput {
	stacks := []impl.Stack{{10, 10}, {10, 10}, {2, 3, 4}, {60, 60, 24}, limitStack(), nil, {10, 1}, {100, 100, 100, 100, 100, 100, 2}}
	logs := [][]impl.Reading{nil, {}, daily(5), daily(10, 12, 90, 16), daily(10, 12, 14, 50, 52, 54), daily(12, 15, 25, 35), daily(0, 1, 0, 1, 0)}
	for i := range 8 {
		logs = append(logs, madeLog(impl.Stack{10, 10}, i*5, uint64(i)), madeLog(impl.Stack{2, 3, 4}, 40-i*5, uint64(i)))
	}
	logs = append(logs, slices.DeleteFunc(badLogs(), func(log []impl.Reading) bool { return len(log) > 1000 })...)
	flows := append(append(smallFlows(), flow(0, impl.MaxFlow), flow(impl.MaxFlow, impl.MaxFlow), flow(1, 5)), badFlows()...)
	readings := append(badReadings(), reading(0, 0), reading(0, 20), reading(3, 26), reading(3, 16), reading(impl.MaxLogDay, 5), reading(7, 99))
	numbers := []int64{0, 1, 2, 3, 5, 39, 40, 100, -1, impl.MaxFlow, impl.MaxFlow + 1, math.MaxInt64, math.MinInt64, 1 << 32}
	stories := []impl.Story{{}, {Kept: []int64{0}}, {Kept: []int64{0, 1, 3}, Cost: 1}, {Kept: []int64{0, 1, 2, 3}, Breaks: []int64{2, 3}, Cost: 4},
		{Kept: []int64{3, 1}, Breaks: []int64{9}, Cost: -7}, {Kept: []int64{math.MaxInt64}, Breaks: []int64{math.MinInt64}, Cost: math.MinInt64}}
	texts := []string{"", "0 0:5\n", "0 1:0\n1 1:2\n", "1 1:0\n1 1:2\n", "0 1:2:3\n", "0 0:5", "x", "0 23:59:59\n", "\n", "9\xff"}
	var list []logInput
	for i, log := range logs {
		for j, f := range flows {
			sum := i*31 + j*17
			list = append(list, logInput{
				s: stacks[(sum+j)%len(stacks)], log: log, other: logs[sum%len(logs)], f: f,
				a: readings[(sum*5+i)%len(readings)], b: readings[(sum*3+j)%len(readings)], n: numbers[(sum+i)%len(numbers)],
				x: stories[(i+j)%len(stories)], y: stories[(i+j*3)%len(stories)], text: texts[sum%len(texts)],
			})
		}
	}
	return list
}

// checkCalls checks that functions return for some inputs, twice the same, modify no
// argument, and have zero values together with a code; and that each one is asked for
// more than it always tells.
func checkCalls[T fmt.Stringer](t *testing.T, calls []call[T], inputs []T, guard func(x *T) []any) {
	t.Helper()
	told := map[string]map[any]bool{}
	for _, x := range inputs {
		all := guard(&x)
		before := fmt.Sprint(all)
		for _, c := range calls {
			first := c.run(x)
			if second := c.run(x); !reflect.DeepEqual(first, second) {
				t.Fatalf("%s of %s: first %v, then %v", c.name, x, first, second)
			}
			checkZeros(t, c, x, first)
			if told[c.name] == nil {
				told[c.name] = map[any]bool{}
			}
			told[c.name][first[len(first)-1]] = true
		}
		if after := fmt.Sprint(all); after != before {
			t.Fatalf("%s: an argument is modified: %s, before %s", x, after, before)
		}
	}
	for name, list := range told {
		if len(list) < 2 {
			t.Errorf("%s has only returned %v", name, list)
		}
	}
}

// inLonger puts a list into a longer one, and returns that, too.
func inLonger[S ~[]T, T any](list S, other T) (S, any) {
	long := append(append(S{other}, list...), other, other, other)
	return long[1 : 1+len(list)], long
}

// guardLogs puts the slices of an input into longer ones, whose other elements are
// told too.
func guardLogs(x *logInput) []any {
	all := make([]any, 7)
	x.s, all[0] = inLonger(x.s, 17)
	x.log, all[1] = inLonger(x.log, reading(17, 18))
	x.other, all[2] = inLonger(x.other, reading(19, 20))
	x.x.Kept, all[3] = inLonger(x.x.Kept, 17)
	x.x.Breaks, all[4] = inLonger(x.x.Breaks, 18)
	x.y.Kept, all[5] = inLonger(x.y.Kept, 19)
	x.y.Breaks, all[6] = inLonger(x.y.Breaks, 20)
	return all
}

// TestPromise1Logs checks that every function of chapter 4 returns, twice the same,
// modifies no argument, and has zero values together with a code.
func TestPromise1Logs(t *testing.T) {
	checkCalls(t, logCalls(), logInputs(), guardLogs)
}

// TestPromise1BadLogs checks that each function of chapter 4 refuses what is not
// valid ahead of every other error, and that those without a code return nothing.
func TestPromise1BadLogs(t *testing.T) {
	goods := []logInput{
		{s: impl.Stack{10, 10}, log: daily(10, 12, 90, 16), f: flow(1, 5), a: reading(0, 20), b: reading(3, 26), n: 1},
		{s: impl.Stack{10, 10}, f: flow(0, 0), a: reading(5, 20), b: reading(3, 26), n: -1, x: impl.Story{Cost: 9}, text: "x"},
		{s: impl.Stack{10, 10}, log: daily(7), f: flow(0, 0), a: reading(5, 20), b: reading(6, 26), n: math.MaxInt64, x: impl.Story{Cost: 9}, text: "x"},
	}
	between := []string{"CountsBetween", "RoundsBetween", "SetBackBy"}
	stories := []string{"SuspectsOf", "BestStory", "CheckStory", "CostWithout", "SureMisreads", "TotalOfStory"}
	logs := append([]string{"ValidLog", "GoesBack", "TightestFlow", "StuckSince", "LogText"}, stories...)
	for _, good := range goods {
		for _, bad := range badStacks() {
			x := good
			x.s = bad
			checkRefused(t, logCalls(), x, append(append([]string{"ReadLog"}, logs...), between...)...)
		}
		for _, bad := range badLogs() {
			x := good
			x.log = bad
			checkRefused(t, logCalls(), x, logs...)
		}
		for _, bad := range badFlows() {
			x := good
			x.f = bad
			checkRefused(t, logCalls(), x, append(append([]string{"ValidFlow"}, stories...), between...)...)
		}
		for _, bad := range badReadings() {
			x := good
			x.a = bad
			checkRefused(t, logCalls(), x, between...)
			x.a, x.b = good.a, bad
			checkRefused(t, logCalls(), x, between...)
		}
	}
}

// TestPromise1NewLogs checks that what is returned shares no memory, neither with
// what other calls return, nor within a story.
func TestPromise1NewLogs(t *testing.T) {
	s, f := impl.Stack{10, 10}, flow(1, 5)
	log := daily(10, 12, 14, 90, 50, 52, 54)
	before := slices.Clone(log)
	lists := map[string]func() []int64{
		"GoesBack":     func() []int64 { list, _ := impl.GoesBack(s, log); return list },
		"SuspectsOf":   func() []int64 { list, _ := impl.SuspectsOf(s, log, f); return list },
		"Kept":         func() []int64 { x, _ := impl.BestStory(s, log, f); return x.Kept },
		"Breaks":       func() []int64 { x, _ := impl.BestStory(s, log, f); return x.Breaks },
		"SureMisreads": func() []int64 { list, _ := impl.SureMisreads(s, log, f); return list },
	}
	for name, run := range lists {
		one, two := run(), run()
		want := slices.Clone(one)
		spoil(one, 77)
		if again := run(); len(want) == 0 || !slices.Equal(two, want) || !slices.Equal(again, want) {
			t.Errorf("lists of %s share memory: %v, %v, want %v", name, two, again, want)
		}
	}
	x, _ := impl.BestStory(s, log, f)
	y := impl.Story{Kept: slices.Clone(x.Kept), Breaks: slices.Clone(x.Breaks), Cost: x.Cost}
	spoil(x.Kept, 77)
	if !slices.Equal(x.Breaks, y.Breaks) {
		t.Errorf("Kept and Breaks share memory: %s, before %s", storyText(x), storyText(y))
	}
	spoil(x.Breaks, 78)
	if slices.Contains(x.Kept, 78) {
		t.Errorf("Breaks and Kept share memory: %s", storyText(x))
	}
	one, _ := impl.ReadLog(s, "0 1:0\n1 1:2\n")
	two, _ := impl.ReadLog(s, "0 1:0\n1 1:2\n")
	spoil(one, reading(77, 78))
	if !slices.Equal(two, daily(10, 12)) {
		t.Errorf("logs that are read share memory: %v", two)
	}
	if !slices.Equal(log, before) {
		t.Errorf("the log has become %v", log)
	}
}

// TestPromise1EmptyLogs checks that nil and empty are equivalent.
func TestPromise1EmptyLogs(t *testing.T) {
	s, f := impl.Stack{10, 10}, flow(1, 5)
	none, empty := impl.Story{}, impl.Story{Kept: []int64{}, Breaks: []int64{}}
	for _, log := range [][]impl.Reading{nil, {}} {
		x, code := impl.BestStory(s, log, f)
		if !impl.SameStory(x, none) || !impl.SameStory(x, empty) || code != impl.OK {
			t.Errorf("the best story of no readings is %s, %d", storyText(x), code)
		}
		for _, y := range []impl.Story{none, empty} {
			if ok, code := impl.CheckStory(s, log, f, y); !ok || code != impl.OK {
				t.Errorf("CheckStory of no readings is %v, %d", ok, code)
			}
		}
	}
	for _, breaks := range [][]int64{nil, {}} {
		if ok, code := impl.CheckStory(s, daily(10, 12), f, impl.Story{Kept: []int64{0, 1}, Breaks: breaks}); !ok || code != impl.OK {
			t.Errorf("CheckStory without breaks is %v, %d", ok, code)
		}
	}
}
