package tests

import (
	"cmp"
	"fmt"
	"math"
	"slices"
	"testing"

	"loop.example/g01278/impl"
)

func reading(day, value int64) impl.Reading { return impl.Reading{Day: day, Value: value} }

func flow(low, high int64) impl.Flow { return impl.Flow{Low: low, High: high} }

// daily returns a log with values on the days 0, 1, 2, ...
func daily(values ...int64) []impl.Reading {
	var log []impl.Reading
	for i, value := range values {
		log = append(log, reading(int64(i), value))
	}
	return log
}

// madeLog returns a log of n readings, the same one for the same numbers: some are
// just a little more than the one before, others anything.
func madeLog(s impl.Stack, n int, seed uint64) []impl.Reading {
	size, _ := impl.SizeOf(s)
	next := func(end int64) int64 {
		seed = seed*6364136223846793005 + 1442695040888963407
		return int64(seed>>33) % end
	}
	var log []impl.Reading
	day, value := next(3), next(size)
	for range n {
		if next(3) == 0 {
			value = next(size)
		} else {
			value = (value + next(4)) % size
		}
		log = append(log, reading(day, value))
		day += 1 + next(5)/3
	}
	return log
}

// brokenLog returns a log of n readings of the stack "10:10", the same one for the
// same numbers: one count or two each day, but it is set to anything now and then.
func brokenLog(n int, seed uint64) []impl.Reading {
	next := func(end uint64) int64 {
		seed = seed*6364136223846793005 + 1442695040888963407
		return int64((seed >> 33) % end)
	}
	value := next(100)
	var values []int64
	for i := range n {
		value = (value + 1 + next(2)) % 100
		if i%4 == 3 || next(12) == 0 {
			value = next(100)
		}
		values = append(values, value)
	}
	return daily(values...)
}

// smallFlows are used with stacks of few values.
func smallFlows() []impl.Flow {
	return []impl.Flow{flow(0, 0), flow(0, 1), flow(1, 1), flow(0, 2), flow(1, 2), flow(2, 2), flow(1, 3), flow(3, 3), flow(0, 5), flow(4, 6), flow(2, 9)}
}

// badFlows are not valid, each for another reason.
func badFlows() []impl.Flow {
	return []impl.Flow{flow(-1, 0), flow(-1, 5), flow(-5, -1), flow(0, -1), flow(2, 1), flow(1, 0), flow(0, impl.MaxFlow+1), flow(impl.MaxFlow+1, impl.MaxFlow+1),
		flow(impl.MaxFlow, impl.MaxFlow-1), flow(math.MinInt64, math.MaxInt64), flow(math.MinInt64, 0), flow(0, math.MaxInt64), flow(0, 1<<32), flow(5, math.MinInt64)}
}

// badReadings are not valid for the stack "10:10", each for another reason.
func badReadings() []impl.Reading {
	return []impl.Reading{reading(-1, 0), reading(impl.MaxLogDay+1, 0), reading(0, -1), reading(0, 100), reading(-1, 100), reading(1<<32, 5),
		reading(5, 1<<32), reading(math.MinInt64, 5), reading(math.MaxInt64, 5), reading(5, math.MinInt64), reading(5, math.MaxInt64)}
}

// badLogs are not valid for the stack "10:10", each for another reason.
func badLogs() [][]impl.Reading {
	list := [][]impl.Reading{
		{reading(5, 1), reading(5, 2)},
		{reading(5, 1), reading(5, 1)},
		{reading(5, 1), reading(4, 2)},
		{reading(0, 1), reading(1, 2), reading(3, 3), reading(2, 4)},
		{reading(1, 1), reading(0, 2), reading(3, 3)},
		daily(make([]int64, impl.MaxLog+1)...),
		make([]impl.Reading, 100),
		daily(make([]int64, 90000)...),
	}
	for _, r := range badReadings() {
		list = append(list, []impl.Reading{r}, []impl.Reading{reading(0, 3), reading(1, 5), r}, []impl.Reading{r, reading(impl.MaxLogDay, 5)})
	}
	return list
}

// countsByTrial turns an odometer on from one reading, a count at a time, and
// returns all counts of a flow behind which it shows the other one, and the rounds.
func countsByTrial(s impl.Stack, a, b impl.Reading, f impl.Flow) (counts, rounds []int64) {
	all := allDigits(s)
	o := odometer{bases: s, shows: all[a.Value]}
	days := b.Day - a.Day
	for count := int64(0); count <= f.High*days; count++ {
		if count >= f.Low*days && o.shows == all[b.Value] {
			counts, rounds = append(counts, count), append(rounds, o.rounds)
		}
		o.up()
	}
	return counts, rounds
}

// setBackByTrial turns an odometer on from b, a count at a time, until it shows
// what another one has shown that counts on from a.
func setBackByTrial(s impl.Stack, a, b impl.Reading, f impl.Flow) int64 {
	all := allDigits(s)
	o := odometer{bases: s, shows: all[a.Value]}
	shown := map[impl.Digits]bool{}
	days := b.Day - a.Day
	for count := int64(0); count <= f.High*days; count++ {
		if count >= f.Low*days {
			shown[o.shows] = true
		}
		o.up()
	}
	back := odometer{bases: s, shows: all[b.Value]}
	for n := int64(0); ; n++ {
		if shown[back.shows] {
			return n
		}
		back.up()
	}
}

// gaps tells of all pairs of readings whether a count is possible, by trial.
type gaps [][]bool

func gapsOf(s impl.Stack, log []impl.Reading, f impl.Flow) gaps {
	g := make(gaps, len(log))
	for i := range log {
		g[i] = make([]bool, len(log))
		for j := i + 1; j < len(log); j++ {
			counts, _ := countsByTrial(s, log[i], log[j], f)
			g[i][j] = len(counts) > 0
		}
	}
	return g
}

// without returns the same without a reading.
func (g gaps) without(i int) gaps {
	var less gaps
	for _, row := range slices.Delete(slices.Clone(g), i, i+1) {
		less = append(less, slices.Delete(slices.Clone(row), i, i+1))
	}
	return less
}

// suspects returns the readings to which no count is possible from the one before.
func (g gaps) suspects() []int64 {
	var list []int64
	for i := 1; i < len(g); i++ {
		if !g[i-1][i] {
			list = append(list, int64(i))
		}
	}
	return list
}

// subsets returns all lists of some of the numbers of a list, in their order.
func subsets(list []int64) [][]int64 {
	all := [][]int64{nil}
	for _, n := range list {
		for _, before := range slices.Clone(all) {
			all = append(all, append(slices.Clone(before), n))
		}
	}
	return all
}

// stories tries all lists of kept readings, with all lists of breaks, or with just
// those breaks that they need, and returns those that are as told.
func (g gaps) stories(allBreaks bool) []impl.Story {
	var indices []int64
	for i := range g {
		indices = append(indices, int64(i))
	}
	var list []impl.Story
	for _, kept := range subsets(indices) {
		if len(kept) == 0 && len(g) > 0 {
			continue
		}
		var needed []int64
		for k := 1; k < len(kept); k++ {
			if !g[kept[k-1]][kept[k]] {
				needed = append(needed, kept[k])
			}
		}
		choices := [][]int64{needed}
		if allBreaks && len(kept) > 0 {
			choices = subsets(kept[1:])
		}
		for _, breaks := range choices {
			if !slices.ContainsFunc(needed, func(i int64) bool { return !slices.Contains(breaks, i) }) {
				list = append(list, impl.Story{Kept: kept, Breaks: breaks, Cost: int64(len(g) - len(kept) + 2*len(breaks))})
			}
		}
	}
	return list
}

// compareStories has the story first that is the better one.
func compareStories(a, b impl.Story) int {
	return cmp.Or(cmp.Compare(a.Cost, b.Cost), cmp.Compare(len(a.Breaks), len(b.Breaks)), slices.Compare(a.Kept, b.Kept))
}

// bestForward finds the best story from the first reading on: for each reading that
// may be the last one kept, the best of all stories up to it, with the whole lists.
func (g gaps) bestForward() impl.Story {
	var upTo []impl.Story
	best := impl.Story{Cost: math.MaxInt64}
	for i := range g {
		here := impl.Story{Kept: []int64{int64(i)}, Cost: int64(i)}
		for k, before := range upTo {
			one := impl.Story{Kept: append(slices.Clone(before.Kept), int64(i)), Breaks: slices.Clone(before.Breaks), Cost: before.Cost + int64(i-k-1)}
			if !g[k][i] {
				one.Breaks = append(one.Breaks, int64(i))
				one.Cost += 2
			}
			if compareStories(one, here) < 0 {
				here = one
			}
		}
		upTo = append(upTo, here)
		here.Cost += int64(len(g) - i - 1)
		if compareStories(here, best) < 0 {
			best = here
		}
	}
	if len(g) == 0 {
		return impl.Story{}
	}
	return best
}

func sameStory(a, b impl.Story) bool {
	return slices.Equal(a.Kept, b.Kept) && slices.Equal(a.Breaks, b.Breaks) && a.Cost == b.Cost
}

func storyText(x impl.Story) string { return fmt.Sprint(x.Kept, x.Breaks, x.Cost) }

func mustStory(t *testing.T, s impl.Stack, log []impl.Reading, f impl.Flow) impl.Story {
	t.Helper()
	x, code := impl.BestStory(s, log, f)
	if code != impl.OK {
		t.Fatalf("BestStory(%v, %v, %v): code %d", s, log, f, code)
	}
	return x
}
