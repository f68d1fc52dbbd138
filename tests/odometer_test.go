package tests

import (
	"slices"
	"testing"

	"loop.example/g01278/impl"
)

// odometer counts one step at a time, with carries from wheel to wheel, so that
// it shares no arithmetic with the package.
type odometer struct {
	bases  impl.Stack
	shows  impl.Digits
	rounds int64
	moves  [8]int64
}

// up steps forward, and returns how many wheels have moved.
func (o *odometer) up() int64 {
	for i, base := range o.bases {
		o.moves[i]++
		if o.shows[i] < base-1 {
			o.shows[i]++
			return int64(i) + 1
		}
		o.shows[i] = 0
	}
	o.rounds++
	return int64(len(o.bases))
}

// down steps back, and returns how many wheels have moved.
func (o *odometer) down() int64 {
	for i, base := range o.bases {
		o.moves[i]--
		if o.shows[i] > 0 {
			o.shows[i]--
			return int64(i) + 1
		}
		o.shows[i] = base - 1
	}
	o.rounds--
	return int64(len(o.bases))
}

// allDigits returns what an odometer shows in one whole round, from zero on.
func allDigits(s impl.Stack) []impl.Digits {
	o := odometer{bases: s}
	var list []impl.Digits
	for o.rounds == 0 {
		list = append(list, o.shows)
		o.up()
	}
	return list
}

// smallStacks are walked through as a whole.
func smallStacks() []impl.Stack {
	return []impl.Stack{
		{2}, {3}, {7}, {2, 2}, {2, 3}, {3, 2}, {10, 2}, {4, 5}, {11, 2},
		{2, 3, 4}, {4, 3, 2}, {5, 2, 3}, {2, 2, 2, 2, 2, 2}, {3, 2, 2, 3},
	}
}

// limitStack has exactly MaxCount values.
func limitStack() impl.Stack { return impl.Stack{100, 100, 100, 100, 100, 100} }

// badStacks are not valid, each for another reason.
func badStacks() []impl.Stack {
	return []impl.Stack{
		nil,
		{},
		{0},
		{1},
		{10, 1, 10},
		{10, 10, 0},
		{101},
		{10, 255},
		{2, 2, 2, 2, 2, 2, 2, 2, 2},
		{100, 100, 100, 100, 100, 100, 2},
		{11, 58, 59, 62, 71, 71, 85},
		{100, 100, 100, 100, 100, 100, 100, 100},
		slices.Repeat(impl.Stack{2}, 64), // 2^64 is 0 in 64 bits
		slices.Repeat(impl.Stack{2}, 1000000),
	}
}

// badDigits are not valid for the stack "2:10:10".
func badDigits() []impl.Digits {
	return []impl.Digits{
		{10},
		{0, 10},
		{0, 0, 2},
		{0, 0, 0, 1},
		{0, 0, 0, 0, 0, 0, 0, 1},
		{255, 255, 255, 255, 255, 255, 255, 255},
	}
}

func mustCode(t *testing.T, what string, got, want int64) {
	t.Helper()
	if got != want {
		t.Errorf("%s: code %q, want %q", what, impl.CodeName(got), impl.CodeName(want))
	}
}

func mustRead(t *testing.T, text string) impl.Stack {
	t.Helper()
	s, code := impl.ReadStack(text)
	if code != impl.OK {
		t.Fatalf("ReadStack(%q): code %d", text, code)
	}
	return s
}

func mustDigits(t *testing.T, s impl.Stack, text string) impl.Digits {
	t.Helper()
	d, code := impl.ReadDigits(s, text)
	if code != impl.OK {
		t.Fatalf("ReadDigits(%v, %q): code %d", s, text, code)
	}
	return d
}
