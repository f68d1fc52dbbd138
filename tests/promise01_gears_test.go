package tests

import (
	"fmt"
	"math"
	"reflect"
	"runtime"
	"slices"
	"testing"
	"time"

	"loop.example/g01278/impl"
)

// gearInput has an argument for every parameter of chapter 3.
type gearInput struct {
	r, a, b  impl.Ratio
	p, q     int64
	t, other impl.Train
	count    int64
	most     int64
	terms    []int64
	text     string
}

func (x gearInput) String() string {
	return fmt.Sprint(x.r, x.a, x.b, x.p, x.q, x.t[:min(len(x.t), 9)], x.other[:min(len(x.other), 9)], x.count, x.most, x.terms[:min(len(x.terms), 9)], short(x.text))
}

func gearCalls() []call[gearInput] {
	return append(trainCalls(), []call[gearInput]{
		{"ValidRatio", false, func(x gearInput) []any { return results(impl.ValidRatio(x.r)) }},
		{"MakeRatio", true, func(x gearInput) []any { a, c := impl.MakeRatio(x.p, x.q); return results(a, c) }},
		{"CompareRatios", true, func(x gearInput) []any { a, c := impl.CompareRatios(x.r, x.a); return results(a, c) }},
		{"TimesRatio", true, func(x gearInput) []any { a, c := impl.TimesRatio(x.r, x.a); return results(a, c) }},
		{"TermsOf", true, func(x gearInput) []any { a, c := impl.TermsOf(x.r); return results(a, c) }},
		{"FromTerms", true, func(x gearInput) []any { a, c := impl.FromTerms(x.terms); return results(a, c) }},
		{"ConvergentsOf", true, func(x gearInput) []any { a, c := impl.ConvergentsOf(x.r); return results(a, c) }},
		{"NearestRatio", true, func(x gearInput) []any { a, c := impl.NearestRatio(x.r, x.most); return results(a, c) }},
		{"NearerRatio", true, func(x gearInput) []any { a, c := impl.NearerRatio(x.r, x.a, x.b); return results(a, c) }},
		{"PairFor", true, func(x gearInput) []any { a, c := impl.PairFor(x.r); return results(a, c) }},
		{"TrainFor", true, func(x gearInput) []any { a, c := impl.TrainFor(x.r); return results(a, c) }},
		{"NearestPair", true, func(x gearInput) []any { a, c := impl.NearestPair(x.r, x.most); return results(a, c) }},
	}...)
}

func trainCalls() []call[gearInput] {
	return []call[gearInput]{
		{"ValidTrain", false, func(x gearInput) []any { return results(impl.ValidTrain(x.t)) }},
		{"SameTrain", false, func(x gearInput) []any { return results(impl.SameTrain(x.t, x.other)) }},
		{"RatioOf", true, func(x gearInput) []any { a, c := impl.RatioOf(x.t); return results(a, c) }},
		{"TeethOf", true, func(x gearInput) []any { a, c := impl.TeethOf(x.t); return results(a, c) }},
		{"BackTrain", true, func(x gearInput) []any { a, c := impl.BackTrain(x.t); return results(a, c) }},
		{"DrivenCount", true, func(x gearInput) []any { a, c := impl.DrivenCount(x.t, x.count); return results(a, c) }},
		{"FirstOff", true, func(x gearInput) []any { a, c := impl.FirstOff(x.t, x.r, x.most); return results(a, c) }},
		{"OffAfter", true, func(x gearInput) []any { a, c := impl.OffAfter(x.t, x.r, x.count); return results(a, c) }},
		{"TrainText", false, func(x gearInput) []any { return results(impl.TrainText(x.t)) }},
		{"ReadTrain", true, func(x gearInput) []any { a, c := impl.ReadTrain(x.text); return results(a, c) }},
	}
}

// gearInputs has valid and invalid arguments of every kind, mixed.
func gearInputs() []gearInput {
	ratios := append(append(greatRatios(), badRatios()...), ratio(1, 1), ratio(1, 6), ratio(7, 61), ratio(1, 100), ratio(100, 1), ratio(120, 121), ratio(1000, 999))
	trains := slices.DeleteFunc(append(goodTrains(), badTrains()...), func(t impl.Train) bool { return len(t) > 1000 })
	numbers := []int64{0, 1, -1, 2, 7, 8, 9, 60, 120, 121, 1000, 1001, 99999, 100000, 100001, impl.MaxTerm - 1, impl.MaxTerm, impl.MaxTerm + 1,
		-impl.MaxTerm, math.MaxInt64, math.MinInt64, 1 << 32, -1 << 32}
	lists := [][]int64{nil, {}, {0}, {3, 7, 16}, {0, 1}, {5, 0}, {-1, 5}, {impl.MaxTerm, 1}, {impl.MaxTerm + 1}, {0, impl.MaxTerm},
		slices.Repeat([]int64{1}, 43), slices.Repeat([]int64{1}, 60), slices.Repeat([]int64{1}, 61)}
	texts := []string{"", "8/8", "10/20 15/45", "8/120 120/8 8/8 9/10", "7/8", "8/8 ", "x", "8", "/", "8/08", "8/8 8/8 8/8 8/8 8/8", "8/8\xff"}
	var list []gearInput
	for i, r := range ratios {
		for j, t := range trains {
			sum := i*31 + j*17
			list = append(list, gearInput{
				r: r, a: ratios[(sum+5)%len(ratios)], b: ratios[(sum*3+i)%len(ratios)],
				p: numbers[(sum+j)%len(numbers)], q: numbers[(sum*5+i)%len(numbers)],
				t: t, other: trains[(sum*7+i)%len(trains)],
				count: numbers[(sum*11+i)%len(numbers)], most: numbers[(sum*13+j)%len(numbers)],
				terms: lists[sum%len(lists)], text: texts[(sum+i)%len(texts)],
			})
		}
	}
	return list
}

// guardGears puts the slices of an input into longer arrays, whose other elements are told too.
func guardGears(x *gearInput) ([]impl.Train, []int64) {
	var all []impl.Train
	for _, t := range []*impl.Train{&x.t, &x.other} {
		long := append(append(train(17, 18), *t...), train(19, 20, 21, 22)...)
		*t = long[1 : 1+len(*t)]
		all = append(all, long)
	}
	terms := append(append([]int64{17}, x.terms...), 18, 19)
	x.terms = terms[1 : 1+len(x.terms)]
	return all, terms
}

// TestPromise1Gears checks that every function of chapter 3 returns, twice the
// same, modifies no argument, and has zero values together with a code.
func TestPromise1Gears(t *testing.T) {
	for _, x := range gearInputs() {
		all, terms := guardGears(&x)
		before, termsBefore := []impl.Train{slices.Clone(all[0]), slices.Clone(all[1])}, slices.Clone(terms)
		for _, c := range gearCalls() {
			first := c.run(x)
			if second := c.run(x); !reflect.DeepEqual(first, second) {
				t.Fatalf("%s of %s: first %v, then %v", c.name, x, first, second)
			}
			checkZeros(t, c, x, first)
		}
		if !reflect.DeepEqual(all, before) || !slices.Equal(terms, termsBefore) {
			t.Fatalf("an argument is modified: %v, %v, before %v, %v", all, terms, before, termsBefore)
		}
	}
}

// TestPromise1InvalidRatios checks that each function with a ratio refuses one that
// is not valid, ahead of every other error.
func TestPromise1InvalidRatios(t *testing.T) {
	// The other arguments are first valid, and then such as are refused themselves.
	others := []gearInput{
		{r: ratio(1, 6), a: ratio(2, 3), b: ratio(3, 4), t: train(10, 20), count: 5, most: 50},
		{r: ratio(1, 100), a: ratio(impl.MaxTerm, 1), b: ratio(1, impl.MaxTerm), t: train(10, 20), count: -1, most: -1},
		{r: ratio(1, 127), a: ratio(1001, 1), b: ratio(2, 2), t: nil, count: math.MaxInt64, most: math.MaxInt64},
	}
	for _, bad := range badRatios() {
		for _, x := range others {
			good := x.r
			x.r = bad
			checkRefused(t, gearCalls(), x, "ValidRatio", "CompareRatios", "TimesRatio", "TermsOf", "ConvergentsOf", "NearestRatio", "NearerRatio",
				"PairFor", "TrainFor", "NearestPair", "FirstOff", "OffAfter")
			x.r, x.a = good, bad
			checkRefused(t, gearCalls(), x, "CompareRatios", "TimesRatio", "NearerRatio")
			x.a, x.b = good, bad
			checkRefused(t, gearCalls(), x, "NearerRatio")
		}
	}
}

// TestPromise1InvalidTrains checks that each function with a train refuses one that
// is not valid, ahead of every other error.
func TestPromise1InvalidTrains(t *testing.T) {
	for _, bad := range badTrains() {
		for _, n := range []int64{0, 1, -1, 5, 100000, 100001, impl.MaxTerm + 1, math.MinInt64, math.MaxInt64} {
			for _, r := range []impl.Ratio{ratio(1, 6), ratio(1, 1), {}} {
				x := gearInput{t: bad, r: r, count: n, most: n}
				checkRefused(t, gearCalls(), x, "ValidTrain", "RatioOf", "TeethOf", "BackTrain", "DrivenCount", "FirstOff", "OffAfter", "TrainText")
			}
		}
	}
}

// TestPromise1NewGears checks that what is returned shares no memory.
func TestPromise1NewGears(t *testing.T) {
	same := train(8, 80, 8, 80)
	trains := map[string]func() (impl.Train, int64){
		"BackTrain":   func() (impl.Train, int64) { return impl.BackTrain(same) },
		"PairFor":     func() (impl.Train, int64) { return impl.PairFor(ratio(1, 6)) },
		"TrainFor":    func() (impl.Train, int64) { return impl.TrainFor(ratio(1, 100)) },
		"NearestPair": func() (impl.Train, int64) { return impl.NearestPair(ratio(355, 113), 60) },
		"ReadTrain":   func() (impl.Train, int64) { return impl.ReadTrain("8/80 8/80") },
	}
	for name, run := range trains {
		one, _ := run()
		two, _ := run()
		want := slices.Clone(one)
		spoil(one, impl.Pair{Driver: 77, Driven: 77})
		again, code := run()
		if !slices.Equal(two, want) || !slices.Equal(again, want) || code != impl.OK {
			t.Errorf("trains of %s share memory: %v, %v, want %v", name, two, again, want)
		}
	}
	if !slices.Equal(same, train(8, 80, 8, 80)) {
		t.Errorf("a train that is returned is an argument: %v", same)
	}
	r := ratio(355, 113)
	terms, _ := impl.TermsOf(r)
	other, _ := impl.TermsOf(r)
	ratios, _ := impl.ConvergentsOf(r)
	more, _ := impl.ConvergentsOf(r)
	spoil(terms, 77)
	spoil(ratios, ratio(77, 78))
	if !slices.Equal(other, []int64{3, 7, 16}) || !slices.Equal(more, []impl.Ratio{{P: 3, Q: 1}, {P: 22, Q: 7}, {P: 355, Q: 113}}) {
		t.Errorf("terms or convergents share memory: %v, %v", other, more)
	}
}

// spoil writes over a slice, and over its unused capacity.
func spoil[T any](list []T, with T) {
	for i := range list[:cap(list)] {
		list[:cap(list)][i] = with
	}
}

// TestPromise1Searches checks that many searches at the same time, and one behind
// the other, find the same, and leave nothing behind that goes on.
func TestPromise1Searches(t *testing.T) {
	before := runtime.NumGoroutine()
	found := make(chan string)
	for range 50 {
		go func() {
			text := ""
			for _, r := range []impl.Ratio{ratio(1, 16), ratio(1, 100), ratio(121, 120), ratio(7, 61), ratio(1, 226), ratio(14400, 14399)} {
				list, code := impl.TrainFor(r)
				text += impl.TrainText(list) + impl.CodeName(code) + ";"
			}
			found <- text
		}()
	}
	const want = "8/32 8/32ok;8/80 8/80ok;11/10 11/12ok;8/16 14/61ok;notfound;"
	first := <-found
	if first[:min(len(first), len(want))] != want {
		t.Errorf("found %q, want %q", first, want)
	}
	for range 49 {
		if text := <-found; text != first {
			t.Errorf("found %q, and %q", first, text)
		}
	}
	checkJoined(t, before)
}

// checkJoined checks that there are no more goroutines than before.
func checkJoined(t *testing.T, before int) {
	t.Helper()
	for range 1000 { // what has sent its last may still be on its way out
		if runtime.NumGoroutine() <= before {
			return
		}
		time.Sleep(time.Millisecond)
	}
	t.Errorf("%d goroutines go on, and %d before", runtime.NumGoroutine(), before)
}
