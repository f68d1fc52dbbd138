package tests

import (
	"bytes"
	"fmt"
	"math"
	"reflect"
	"slices"
	"strings"
	"testing"

	"loop.example/g01278/impl"
)

// input has an argument for every parameter of chapter 1.
type input struct {
	s, other impl.Stack
	d, e     impl.Digits
	m, n     int64
	wheel, g int64
	text     string
}

// call is a function of the package; the last result is a code if coded is true.
type call[T fmt.Stringer] struct {
	name  string
	coded bool
	run   func(x T) []any
}

func results(list ...any) []any { return list }

func wheelCalls() []call[input] {
	return []call[input]{
		{"CodeName", false, func(x input) []any { return results(impl.CodeName(x.m)) }},
		{"ValidStack", false, func(x input) []any { return results(impl.ValidStack(x.s)) }},
		{"SameStack", false, func(x input) []any { return results(impl.SameStack(x.s, x.other)) }},
		{"SizeOf", true, func(x input) []any { a, c := impl.SizeOf(x.s); return results(a, c) }},
		{"PlaceOf", true, func(x input) []any { a, c := impl.PlaceOf(x.s, x.wheel); return results(a, c) }},
		{"ValidDigits", false, func(x input) []any { return results(impl.ValidDigits(x.s, x.d)) }},
		{"DigitsOf", true, func(x input) []any { a, c := impl.DigitsOf(x.s, x.m); return results(a, c) }},
		{"ValueOf", true, func(x input) []any { a, c := impl.ValueOf(x.s, x.d); return results(a, c) }},
		{"AddTo", true, func(x input) []any { a, b, c := impl.AddTo(x.s, x.d, x.m); return results(a, b, c) }},
		{"StepUp", true, func(x input) []any { a, b, c := impl.StepUp(x.s, x.d); return results(a, b, c) }},
		{"StepDown", true, func(x input) []any { a, b, c := impl.StepDown(x.s, x.d); return results(a, b, c) }},
		{"MovesOf", true, func(x input) []any { a, c := impl.MovesOf(x.s, x.d, x.m); return results(a, c) }},
		{"Complement", true, func(x input) []any { a, c := impl.Complement(x.s, x.d); return results(a, c) }},
		{"WayTo", true, func(x input) []any { a, b, c := impl.WayTo(x.s, x.d, x.e); return results(a, b, c) }},
		{"CompareDigits", true, func(x input) []any { a, c := impl.CompareDigits(x.s, x.d, x.e); return results(a, c) }},
		{"LastOf", true, func(x input) []any { a, c := impl.LastOf(x.s, x.d, x.wheel); return results(a, c) }},
		{"NextWith", true, func(x input) []any { a, c := impl.NextWith(x.s, x.d, x.wheel, x.g); return results(a, c) }},
		{"CountWith", true, func(x input) []any {
			a, c := impl.CountWith(x.s, x.m, x.n, x.wheel, x.g)
			return results(a, c)
		}},
		{"LeastStack", true, func(x input) []any { a, c := impl.LeastStack(x.m, x.wheel); return results(a, c) }},
		{"DigitsText", false, func(x input) []any { return results(impl.DigitsText(x.s, x.d)) }},
		{"ReadDigits", true, func(x input) []any { a, c := impl.ReadDigits(x.s, x.text); return results(a, c) }},
		{"StackText", false, func(x input) []any { return results(impl.StackText(x.s)) }},
		{"ReadStack", true, func(x input) []any { a, c := impl.ReadStack(x.text); return results(a, c) }},
	}
}

// wheelInputs has valid and invalid arguments of every kind, mixed.
func wheelInputs() []input {
	stacks := append(badStacks(), impl.Stack{2}, impl.Stack{10, 10, 2}, impl.Stack{60, 60, 24}, limitStack(),
		impl.Stack{2, 2, 2, 2, 2, 2, 2, 2}, impl.Stack{2, 3, 5, 7, 11, 13})
	digits := append(badDigits(), impl.Digits{}, impl.Digits{1}, impl.Digits{9, 9, 1}, impl.Digits{1, 1, 1, 1, 1, 1, 1, 1},
		impl.Digits{99, 99, 99, 99, 99, 99})
	numbers := []int64{0, 1, -1, 2, 5, 7, 8, 9, 99, 100, 101, 199, 200, 86399, impl.MaxCount - 1, impl.MaxCount,
		impl.MaxCount + 1, -impl.MaxCount, -impl.MaxCount - 1, math.MaxInt64, math.MinInt64, 1 << 32, -1 << 32}
	texts := []string{"", "0", "1", "10:10", "24:60:60", "1:9:9", "0:0:0", ":", "1:", "-1", "9\xff"}
	var list []input
	for i, s := range stacks {
		for j, d := range digits {
			for k, m := range numbers {
				sum := i + j + k
				list = append(list, input{
					s: s, other: stacks[sum%len(stacks)], d: d, e: digits[sum%len(digits)],
					m: m, n: numbers[(sum*5+j)%len(numbers)],
					wheel: numbers[(sum*3+i)%len(numbers)], g: numbers[(sum*7+k)%len(numbers)],
					text: texts[sum%len(texts)],
				})
			}
		}
	}
	return list
}

// withSpare returns the stack in a longer array, whose other bytes are told too.
func withSpare(s impl.Stack) (impl.Stack, []uint8) {
	all := append(append([]uint8{17}, s...), 18, 19, 20)
	return impl.Stack(all[1 : 1+len(s)]), all
}

// TestPromise1Wheels checks that every function of chapter 1 returns, twice the
// same, modifies no argument, and has zero values together with a code.
func TestPromise1Wheels(t *testing.T) {
	for _, x := range wheelInputs() {
		if len(x.s) > 1000 { // TestPromise1InvalidStacks has the long one
			continue
		}
		var all, others []uint8
		x.s, all = withSpare(x.s)
		x.other, others = withSpare(x.other)
		before, othersBefore := slices.Clone(all), slices.Clone(others)
		for _, c := range wheelCalls() {
			first := c.run(x)
			if second := c.run(x); !reflect.DeepEqual(first, second) {
				t.Fatalf("%s of %s: first %v, then %v", c.name, x, first, second)
			}
			if !bytes.Equal(all, before) || !bytes.Equal(others, othersBefore) {
				t.Fatalf("%s of %s modifies its argument", c.name, x)
			}
			checkZeros(t, c, x, first)
		}
	}
}

// checkZeros checks that a code comes with zero values alone.
func checkZeros[T fmt.Stringer](t *testing.T, c call[T], x T, list []any) {
	t.Helper()
	last := len(list) - 1
	if !c.coded || list[last] == int64(impl.OK) {
		return
	}
	for _, r := range list[:last] {
		v := reflect.ValueOf(r)
		if v.Kind() == reflect.Slice && v.Len() > 0 || v.Kind() != reflect.Slice && !v.IsZero() {
			t.Fatalf("%s of %s: %v together with the code %v", c.name, x, r, list[last])
		}
	}
}

// checkRefused checks that some functions return ErrInvalid, or a zero value alone.
func checkRefused[T fmt.Stringer](t *testing.T, calls []call[T], x T, names ...string) {
	t.Helper()
	for _, c := range calls {
		if !slices.Contains(names, c.name) {
			continue
		}
		list := c.run(x)
		if c.coded {
			mustCode(t, fmt.Sprint(c.name, " of ", x), list[len(list)-1].(int64), impl.ErrInvalid)
			checkZeros(t, c, x, list)
		} else if !reflect.ValueOf(list[0]).IsZero() {
			t.Errorf("%s of %s: %v", c.name, x, list[0])
		}
	}
}

func (x input) String() string {
	return fmt.Sprint(x.s, x.other, x.d, x.e, x.m, x.n, x.wheel, x.g, short(x.text))
}

func short(text string) string {
	if len(text) > 20 {
		return text[:20] + ".."
	}
	return text
}

// TestPromise1InvalidStacks checks that each function with a stack refuses one
// that is not valid, whatever the other arguments are.
func TestPromise1InvalidStacks(t *testing.T) {
	without := map[string]bool{"CodeName": true, "SameStack": true, "LeastStack": true, "ReadStack": true}
	for _, s := range badStacks() {
		for _, m := range []int64{0, -1, 1, 1 << 40, math.MinInt64, math.MaxInt64} {
			x := input{s: s, m: m, n: m, wheel: m, g: m, text: "?"}
			for _, c := range wheelCalls() {
				if without[c.name] {
					continue
				}
				list := c.run(x)
				if c.coded {
					mustCode(t, c.name+" of an invalid stack", list[len(list)-1].(int64), impl.ErrInvalid)
					checkZeros(t, c, x, list)
				} else if !reflect.ValueOf(list[0]).IsZero() {
					t.Errorf("%s of the invalid stack %v: %v", c.name, s[:min(len(s), 9)], list[0])
				}
			}
		}
	}
}

// TestPromise1InvalidDigits checks that each function with digits refuses those
// that are not valid, ahead of every other error.
func TestPromise1InvalidDigits(t *testing.T) {
	names := map[string]bool{"ValidDigits": true, "ValueOf": true, "AddTo": true, "StepUp": true, "StepDown": true,
		"MovesOf": true, "Complement": true, "WayTo": true, "CompareDigits": true, "LastOf": true, "NextWith": true, "DigitsText": true}
	s := impl.Stack{10, 10, 2}
	for _, d := range badDigits() {
		for _, m := range []int64{0, 1, -1, math.MinInt64, math.MaxInt64} {
			for _, c := range wheelCalls() {
				if !names[c.name] {
					continue
				}
				x := input{s: s, d: d, m: m, wheel: m, g: m}
				list := c.run(x)
				if c.coded {
					mustCode(t, fmt.Sprint(c.name, " of the digits ", d), list[len(list)-1].(int64), impl.ErrInvalid)
				} else if !reflect.ValueOf(list[0]).IsZero() {
					t.Errorf("%s of the digits %v: %v", c.name, d, list[0])
				}
				x.d, x.e = x.e, x.d
				if list := c.run(x); c.name == "WayTo" || c.name == "CompareDigits" {
					mustCode(t, fmt.Sprint(c.name, " to the digits ", d), list[len(list)-1].(int64), impl.ErrInvalid)
				}
			}
		}
	}
}

// TestPromise1NewMemory checks that stacks that are returned share nothing.
func TestPromise1NewMemory(t *testing.T) {
	one, _ := impl.LeastStack(1000, 3)
	two, _ := impl.LeastStack(1000, 3)
	three, _ := impl.ReadStack("10:10:10")
	four, _ := impl.ReadStack("10:10:10")
	list := []impl.Stack{one, two, three, four}
	for i, s := range list {
		for j := range s[:cap(s)] {
			s[:cap(s)][j] = 77
		}
		for _, other := range list[i+1:] {
			if !slices.Equal(other, impl.Stack{10, 10, 10}) {
				t.Fatalf("the stack %d shares memory with another one: %v", i, other)
			}
		}
	}
	if again, _ := impl.LeastStack(1000, 3); !slices.Equal(again, impl.Stack{10, 10, 10}) {
		t.Errorf("LeastStack keeps what it has returned: %v", again)
	}
}

// TestPromise1LongTexts checks that texts of many bytes are read to no end.
func TestPromise1LongTexts(t *testing.T) {
	for _, part := range []string{"1", "0", ":", "10:", "9:", "\x00"} {
		text := strings.Repeat(part, 1000000/len(part))
		s, code := impl.ReadStack(text)
		mustCode(t, "ReadStack of many "+part, code, impl.ErrSyntax)
		d, codeD := impl.ReadDigits(impl.Stack{10, 10}, text)
		mustCode(t, "ReadDigits of many "+part, codeD, impl.ErrSyntax)
		if len(s) > 0 || d != (impl.Digits{}) {
			t.Errorf("many %q give %v and %v", part, s, d)
		}
	}
}

// TestPromise1Empty checks that nil and empty are equivalent.
func TestPromise1Empty(t *testing.T) {
	if !impl.SameStack(nil, impl.Stack{}) || !impl.SameStack(impl.Stack{}, nil) || !impl.SameStack(nil, nil) {
		t.Error("SameStack tells nil from empty")
	}
}
