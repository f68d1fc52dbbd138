package tests

import (
	"fmt"
	"math"
	"reflect"
	"slices"
	"testing"

	"loop.example/g01278/impl"
)

// motionInput has an argument for every parameter of chapter 2.
type motionInput struct {
	m, other  impl.Motion
	p         impl.Parts
	turn, by  int64
	wheel     int64
	low, high int64
	eye       int64
	teeth     int64
	moves     []int64
	text      string
}

func (x motionInput) String() string {
	return fmt.Sprint(x.m, x.other, x.p, x.turn, x.by, x.wheel, x.low, x.high, x.eye, x.teeth, x.moves[:min(len(x.moves), 9)], short(x.text))
}

func motionCalls() []call[motionInput] {
	return []call[motionInput]{
		{"ValidMotion", false, func(x motionInput) []any { return results(impl.ValidMotion(x.m)) }},
		{"SameMotion", false, func(x motionInput) []any { return results(impl.SameMotion(x.m, x.other)) }},
		{"SpanOf", true, func(x motionInput) []any { a, c := impl.SpanOf(x.m); return results(a, c) }},
		{"PartsAt", true, func(x motionInput) []any { a, c := impl.PartsAt(x.m, x.turn); return results(a, c) }},
		{"TurnBy", true, func(x motionInput) []any { a, b, c := impl.TurnBy(x.m, x.turn, x.by); return results(a, b, c) }},
		{"EyeReads", true, func(x motionInput) []any { a, c := impl.EyeReads(x.m, x.p, x.eye); return results(a, c) }},
		{"RightDigits", true, func(x motionInput) []any { a, c := impl.RightDigits(x.m, x.turn); return results(a, c) }},
		{"RightFrom", true, func(x motionInput) []any { a, c := impl.RightFrom(x.m, x.p); return results(a, c) }},
		{"WrongWheels", true, func(x motionInput) []any { a, c := impl.WrongWheels(x.m, x.turn, x.eye); return results(a, c) }},
		{"MovingWheels", true, func(x motionInput) []any { a, c := impl.MovingWheels(x.m, x.turn); return results(a, c) }},
		{"FirstMove", true, func(x motionInput) []any { a, c := impl.FirstMove(x.m, x.wheel); return results(a, c) }},
		{"BumpParts", true, func(x motionInput) []any { a, c := impl.BumpParts(x.m, x.p, x.wheel, x.by); return results(a, c) }},
		{"WorstRead", true, func(x motionInput) []any {
			a, b, c := impl.WorstRead(x.m, x.low, x.high, x.eye)
			return results(a, b, c)
		}},
		{"ClicksOf", true, func(x motionInput) []any { a, c := impl.ClicksOf(x.turn, x.by, x.teeth); return results(a, c) }},
		{"RestAt", true, func(x motionInput) []any { a, c := impl.RestAt(x.turn, x.teeth); return results(a, c) }},
		{"BackAndForth", true, func(x motionInput) []any {
			a, b, c := impl.BackAndForth(x.turn, x.moves, x.teeth)
			return results(a, b, c)
		}},
		{"MotionText", false, func(x motionInput) []any { return results(impl.MotionText(x.m)) }},
		{"ReadMotion", true, func(x motionInput) []any { a, c := impl.ReadMotion(x.text); return results(a, c) }},
	}
}

// motionInputs has valid and invalid arguments of every kind, mixed.
func motionInputs() []motionInput {
	motions := append(smallMotions(), limitMotion(), fullMotion(), motion(impl.Stack{10, 10}, late(0)), motion(impl.Stack{10, 10}, even()))
	motions = append(motions, badMotions()...)
	parts := append(badParts(), impl.Parts{}, impl.Parts{500}, impl.Parts{1999, 1500}, impl.Parts{9999, 9999}, impl.Parts{0, 999, 1499})
	numbers := []int64{0, 1, -1, 2, 4, 5, 8, 499, 500, 999, 1000, 1001, -500, -1000, -1001, 1999, 9999, 10000, 10001, 99999, 100000,
		impl.MaxTurn - 1, impl.MaxTurn, impl.MaxTurn + 1, -impl.MaxTurn, -impl.MaxTurn - 1, math.MaxInt64, math.MinInt64, 1 << 32, -1 << 32}
	lists := [][]int64{nil, {}, {1}, {-1}, {300, -300, 5}, {impl.MaxTurn, 1}, {impl.MaxTurn + 1}, make([]int64, 100), make([]int64, 101)}
	texts := []string{"", "10", "10:10 even", "10:10 late0", "10:10 late999", "10:10 late1000", "2:2:2 even late5", "10:10", "10 even", "x", "10:10 late\xff"}
	var list []motionInput
	for i, m := range motions {
		for j, p := range parts {
			for k, n := range numbers {
				sum := i + j + k
				list = append(list, motionInput{
					m: m, other: motions[sum%len(motions)], p: p,
					turn: n, by: numbers[(sum*5+j)%len(numbers)],
					wheel: numbers[(sum+i)%7], eye: numbers[(sum+2*j)%5],
					low: numbers[(sum*3+i)%len(numbers)], high: numbers[(sum*7+k)%len(numbers)],
					teeth: numbers[(sum*11+j)%len(numbers)],
					moves: lists[sum%len(lists)], text: texts[sum%len(texts)],
				})
			}
		}
	}
	return list
}

// guarded are arguments that lie in longer arrays, and those arrays as they were.
type guarded struct {
	stacks [2][]uint8
	joints [2][]impl.Joint
	moves  []int64
}

// guard puts the slices of an input into longer arrays, whose other elements are told too.
func guard(x *motionInput) guarded {
	var g guarded
	for i, m := range []*impl.Motion{&x.m, &x.other} {
		m.Stack, g.stacks[i] = withSpare(m.Stack)
		g.joints[i] = append(append([]impl.Joint{late(17)}, m.Joints...), late(18), late(19))
		m.Joints = g.joints[i][1 : 1+len(m.Joints)]
	}
	g.moves = append(append([]int64{17}, x.moves...), 18, 19)
	x.moves = g.moves[1 : 1+len(x.moves)]
	return g
}

func (g guarded) clone() guarded {
	for i := range g.stacks {
		g.stacks[i], g.joints[i] = slices.Clone(g.stacks[i]), slices.Clone(g.joints[i])
	}
	g.moves = slices.Clone(g.moves)
	return g
}

// TestPromise1Motion checks that every function of chapter 2 returns, twice the
// same, modifies no argument, and has zero values together with a code.
func TestPromise1Motion(t *testing.T) {
	for _, x := range motionInputs() {
		if tooLong(x.m) || tooLong(x.other) { // TestPromise1InvalidMotions has these
			continue
		}
		g := guard(&x)
		before := g.clone()
		for _, c := range motionCalls() {
			first := c.run(x)
			if second := c.run(x); !reflect.DeepEqual(first, second) {
				t.Fatalf("%s of %s: first %v, then %v", c.name, x, first, second)
			}
			checkZeros(t, c, x, first)
		}
		if !reflect.DeepEqual(g, before) {
			t.Fatalf("an argument is modified: %v, before %v", g, before)
		}
	}
}

func tooLong(m impl.Motion) bool { return len(m.Stack)+len(m.Joints) > 1000 }

// TestPromise1InvalidMotions checks that each function with a motion refuses one
// that is not valid, whatever the other arguments are.
func TestPromise1InvalidMotions(t *testing.T) {
	without := map[string]bool{"SameMotion": true, "ClicksOf": true, "RestAt": true, "BackAndForth": true, "ReadMotion": true}
	for i, m := range badMotions() {
		for _, n := range []int64{0, 1, -1, 3, 1 << 40, math.MinInt64, math.MaxInt64} {
			x := motionInput{m: m, p: impl.Parts{n}, turn: n, by: n, wheel: n, low: n, high: -n, eye: n, teeth: n, text: "?"}
			for _, c := range motionCalls() {
				if without[c.name] {
					continue
				}
				list := c.run(x)
				if c.coded {
					mustCode(t, fmt.Sprint(c.name, " of the bad motion ", i), list[len(list)-1].(int64), impl.ErrInvalid)
					checkZeros(t, c, x, list)
				} else if !reflect.ValueOf(list[0]).IsZero() {
					t.Errorf("%s of the bad motion %d: %v", c.name, i, list[0])
				}
			}
		}
	}
}

// TestPromise1NewMotions checks that what is returned shares no memory.
func TestPromise1NewMotions(t *testing.T) {
	const text = "10:10:10 even late5"
	want := motion(impl.Stack{10, 10, 10}, even(), late(5))
	one, _ := impl.ReadMotion(text)
	two, _ := impl.ReadMotion(text)
	for i := range one.Stack[:cap(one.Stack)] {
		one.Stack[:cap(one.Stack)][i] = 77
	}
	for i := range one.Joints[:cap(one.Joints)] {
		one.Joints[:cap(one.Joints)][i] = late(77)
	}
	if again, _ := impl.ReadMotion(text); !impl.SameMotion(two, want) || !impl.SameMotion(again, want) {
		t.Errorf("motions that are read share memory: %v, %v", two, again)
	}
	wrong, _ := impl.WrongWheels(want, 99500, impl.EyNear)
	other, _ := impl.WrongWheels(want, 99500, impl.EyNear)
	moving, _ := impl.MovingWheels(want, 99500)
	more, _ := impl.MovingWheels(want, 99500)
	for _, list := range [][]int64{wrong, moving} {
		for i := range list[:cap(list)] {
			list[:cap(list)][i] = 77
		}
	}
	if want := []int64{0, 1, 2}; !slices.Equal(other, want) || !slices.Equal(more, want) {
		t.Errorf("lists of wheels share memory, or are wrong: %v, %v", other, more)
	}
}
