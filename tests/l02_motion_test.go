package tests

import (
	"math"
	"slices"
	"strings"
	"testing"

	"loop.example/g01278/impl"
)

// TestMotionExample asserts the example of chapter 2.
func TestMotionExample(t *testing.T) {
	tens := impl.Stack{10, 10}
	lateZero, evenTen := motion(tens, late(0)), motion(tens, even())
	p := mustParts(t, lateZero, 9500)
	if p != (impl.Parts{9500, 500}) {
		t.Errorf("the late parts at 9500 are %v", p)
	}
	if near, code := impl.EyeReads(lateZero, p, impl.EyNear); near != (impl.Digits{0, 1}) || code != impl.OK {
		t.Errorf("EyNear reads %v, code %d", near, code)
	}
	if right, code := impl.RightDigits(lateZero, 9500); right != (impl.Digits{9, 0}) || code != impl.OK {
		t.Errorf("RightDigits %v, code %d", right, code)
	}
	if p := mustParts(t, evenTen, 9500); p != (impl.Parts{9500, 950}) {
		t.Errorf("the even parts at 9500 are %v", p)
	}
	if d, code := impl.RightFrom(lateZero, impl.Parts{9500, 700}); d != (impl.Digits{9, 0}) || code != impl.OK {
		t.Errorf("RightFrom %v, code %d", d, code)
	}
	if rest, code := impl.RestAt(900, 4); rest != 750 || code != impl.OK {
		t.Errorf("RestAt(900, 4) = %d, %d", rest, code)
	}
	if n, code := impl.ClicksOf(900, 200, 4); n != 1 || code != impl.OK {
		t.Errorf("ClicksOf(900, 200, 4) = %d, %d", n, code)
	}
}

func TestMotionConstants(t *testing.T) {
	got := []int64{impl.Res, impl.MaxTurn, impl.JnEven, impl.JnLate, impl.EyDown, impl.EyNear}
	if want := []int64{1000, 1000000000000000, 0, 1, 0, 1}; !slices.Equal(got, want) {
		t.Errorf("constants %v, want %v", got, want)
	}
	if len(impl.Parts{}) != 8 {
		t.Errorf("there are parts of %d wheels", len(impl.Parts{}))
	}
}

func TestValidMotion(t *testing.T) {
	list := append(smallMotions(), limitMotion(), fullMotion(), motion(impl.Stack{10, 10}, late(0)), motion(impl.Stack{10, 10}, late(999)),
		impl.Motion{Stack: impl.Stack{2}, Joints: []impl.Joint{}})
	for _, m := range list {
		if !impl.ValidMotion(m) {
			t.Errorf("ValidMotion(%v) is false", m)
		}
	}
	for i, m := range badMotions() {
		if impl.ValidMotion(m) {
			t.Errorf("the bad motion %d is valid", i)
		}
	}
}

func TestSameMotion(t *testing.T) {
	one := motion(impl.Stack{10, 9}, late(5))
	tests := []struct {
		a, b impl.Motion
		want bool
	}{
		{one, motion(impl.Stack{10, 9}, late(5)), true},
		{one, motion(impl.Stack{10, 8}, late(5)), false},
		{one, motion(impl.Stack{10, 9}, late(6)), false},
		{one, motion(impl.Stack{10, 9}, impl.Joint{Kind: impl.JnEven, From: 5}), false},
		{one, motion(impl.Stack{10, 9}), false},
		{one, motion(impl.Stack{10, 9}, late(5), late(5)), false},
		{motion(impl.Stack{10, 9, 8}, late(5), even()), motion(impl.Stack{10, 9, 8}, even(), late(5)), false},
		{impl.Motion{}, impl.Motion{Stack: impl.Stack{}, Joints: []impl.Joint{}}, true},
		{impl.Motion{}, one, false},
		{motion(nil, impl.Joint{Kind: 9, From: -7}), motion(nil, impl.Joint{Kind: 9, From: -7}), true},
		{motion(nil, impl.Joint{Kind: 9, From: -7}), motion(nil, impl.Joint{Kind: 9, From: 7}), false},
	}
	for _, x := range tests {
		if got := impl.SameMotion(x.a, x.b); got != x.want {
			t.Errorf("SameMotion(%v, %v) = %v", x.a, x.b, got)
		}
		if got := impl.SameMotion(x.b, x.a); got != x.want {
			t.Errorf("SameMotion(%v, %v) = %v", x.b, x.a, got)
		}
	}
}

func TestSpanOf(t *testing.T) {
	for _, m := range append(smallMotions(), limitMotion(), fullMotion()) {
		want := int64(1000)
		for _, base := range m.Stack {
			want *= int64(base)
		}
		if span, code := impl.SpanOf(m); span != want || code != impl.OK {
			t.Errorf("SpanOf(%v) = %d, %d, want %d", m, span, code, want)
		}
	}
	if span, _ := impl.SpanOf(limitMotion()); span != impl.MaxTurn {
		t.Errorf("the span of the limit is %d", span)
	}
}

// TestPartsWalk checks parts, and what is told by them, at each turn of a whole span.
func TestPartsWalk(t *testing.T) {
	for _, m := range smallMotions() {
		walkSpan(m, func(c *crank) { checkTurn(t, m, c.turn, c.o.shows, c.parts()) })
	}
}

func TestPartsGreat(t *testing.T) {
	for _, m := range []impl.Motion{limitMotion(), fullMotion()} {
		for _, turn := range greatTurns(t, m) {
			d, _ := impl.DigitsOf(m.Stack, turn/1000)
			checkTurn(t, m, turn, d, partsByWords(m, d, turn%1000))
		}
	}
}

func checkTurn(t *testing.T, m impl.Motion, turn int64, right impl.Digits, parts impl.Parts) {
	t.Helper()
	if p, code := impl.PartsAt(m, turn); p != parts || code != impl.OK {
		t.Fatalf("PartsAt(%v, %d) = %v, %d, want %v", m, turn, p, code, parts)
	}
	var near impl.Digits
	var wrong, moving []int64
	for wheel, base := range m.Stack {
		near[wheel] = nearestByWords(parts[wheel], int64(base))
		if near[wheel] != right[wheel] {
			wrong = append(wrong, int64(wheel))
		}
		if parts[wheel]%1000 != 0 {
			moving = append(moving, int64(wheel))
		}
	}
	if d, code := impl.EyeReads(m, parts, impl.EyNear); d != near || code != impl.OK {
		t.Fatalf("EyeReads(%v, %v, EyNear) = %v, %d, want %v", m, parts, d, code, near)
	}
	if list, code := impl.WrongWheels(m, turn, impl.EyNear); !slices.Equal(list, wrong) || code != impl.OK {
		t.Fatalf("WrongWheels(%v, %d, EyNear) = %v, %d, want %v", m, turn, list, code, wrong)
	}
	if list, code := impl.MovingWheels(m, turn); !slices.Equal(list, moving) || code != impl.OK {
		t.Fatalf("MovingWheels(%v, %d) = %v, %d, want %v", m, turn, list, code, moving)
	}
}

// TestPartsByHand has parts that have been worked out by hand.
func TestPartsByHand(t *testing.T) {
	tens := impl.Stack{10, 10}
	tests := []struct {
		m    impl.Motion
		turn int64
		want impl.Parts
	}{
		{motion(tens, even()), 0, impl.Parts{}},
		{motion(tens, even()), 9, impl.Parts{9, 0}},
		{motion(tens, even()), 10, impl.Parts{10, 1}},
		{motion(tens, even()), 9999, impl.Parts{9999, 999}},
		{motion(tens, even()), 10000, impl.Parts{0, 1000}},
		{motion(tens, even()), 99999, impl.Parts{9999, 9999}},
		{motion(tens, late(0)), 8999, impl.Parts{8999, 0}},
		{motion(tens, late(0)), 9000, impl.Parts{9000, 0}},
		{motion(tens, late(0)), 9001, impl.Parts{9001, 1}},
		{motion(tens, late(0)), 9999, impl.Parts{9999, 999}},
		{motion(tens, late(0)), 10000, impl.Parts{0, 1000}},
		{motion(tens, late(500)), 9500, impl.Parts{9500, 0}},
		{motion(tens, late(500)), 9750, impl.Parts{9750, 500}},
		{motion(tens, late(500)), 99999, impl.Parts{9999, 9998}},
		{motion(tens, late(999)), 9999, impl.Parts{9999, 0}},
		{motion(tens, late(999)), 10000, impl.Parts{0, 1000}},
		{motion(tens, late(997)), 9998, impl.Parts{9998, 333}}, // 1000 / 3, rounded down
		{motion(tens, late(997)), 9999, impl.Parts{9999, 666}},
		{motion(tens, late(1)), 9500, impl.Parts{9500, 499}}, // 499000 / 999 is 499.5
		{motion(impl.Stack{3, 10}, even()), 2999, impl.Parts{2999, 999}},
		{motion(impl.Stack{3, 10}, even()), 2, impl.Parts{2, 0}},
		{motion(impl.Stack{10, 10, 10}, even(), even()), 9999, impl.Parts{9999, 999, 99}},
		{motion(impl.Stack{10, 10, 10}, even(), late(0)), 99990, impl.Parts{9990, 9999, 999}},
		{motion(impl.Stack{10, 10, 10}, late(0), late(0)), 99500, impl.Parts{9500, 9500, 500}},
		{limitMotion(), impl.MaxTurn - 1, impl.Parts{99999, 99999, 99999, 99998, 99000, 99990}},
	}
	for _, x := range tests {
		if p, code := impl.PartsAt(x.m, x.turn); p != x.want || code != impl.OK {
			t.Errorf("PartsAt(%v, %d) = %v, %d, want %v", x.m, x.turn, p, code, x.want)
		}
	}
}

// TestEyesByHand reads parts at halves, and near to the base.
func TestEyesByHand(t *testing.T) {
	m := motion(impl.Stack{10, 2}, late(0))
	tests := []struct {
		p          impl.Parts
		down, near impl.Digits
	}{
		{impl.Parts{}, impl.Digits{}, impl.Digits{}},
		{impl.Parts{499, 499}, impl.Digits{}, impl.Digits{}},
		{impl.Parts{500, 500}, impl.Digits{}, impl.Digits{1, 1}},
		{impl.Parts{999, 999}, impl.Digits{}, impl.Digits{1, 1}},
		{impl.Parts{1000, 1000}, impl.Digits{1, 1}, impl.Digits{1, 1}},
		{impl.Parts{9499, 1499}, impl.Digits{9, 1}, impl.Digits{9, 1}},
		{impl.Parts{9500, 1500}, impl.Digits{9, 1}, impl.Digits{0, 0}},
		{impl.Parts{9999, 1999}, impl.Digits{9, 1}, impl.Digits{0, 0}},
		{impl.Parts{9999, 0}, impl.Digits{9, 0}, impl.Digits{0, 0}}, // parts need not be those of a turn
	}
	for _, x := range tests {
		if d, code := impl.EyeReads(m, x.p, impl.EyDown); d != x.down || code != impl.OK {
			t.Errorf("EyDown reads %v as %v, code %d", x.p, d, code)
		}
		if d, code := impl.EyeReads(m, x.p, impl.EyNear); d != x.near || code != impl.OK {
			t.Errorf("EyNear reads %v as %v, code %d", x.p, d, code)
		}
	}
}

// TestTurnByWalk turns by single parts, over several spans forward and back.
func TestTurnByWalk(t *testing.T) {
	for _, m := range []impl.Motion{motion(impl.Stack{2}), motion(impl.Stack{2, 3}, late(333))} {
		span, _ := impl.SpanOf(m)
		for _, from := range []int64{0, 1, 500, span / 2, span - 1} {
			ahead, over, behind, under := from, int64(0), from, int64(0)
			for by := range 3*span + 2 {
				checkTurnBy(t, m, from, by, ahead, over)
				checkTurnBy(t, m, from, -by, behind, under)
				if ahead++; ahead == span {
					ahead, over = 0, over+1
				}
				if behind--; behind < 0 {
					behind, under = span-1, under-1
				}
			}
		}
	}
}

func checkTurnBy(t *testing.T, m impl.Motion, turn, by, want, rounds int64) {
	t.Helper()
	if got, n, code := impl.TurnBy(m, turn, by); got != want || n != rounds || code != impl.OK {
		t.Fatalf("TurnBy(%v, %d, %d) = %d, %d, %d, want %d, %d", m, turn, by, got, n, code, want, rounds)
	}
}

func TestTurnByLimits(t *testing.T) {
	two, all := motion(impl.Stack{2}), limitMotion()
	checkTurnBy(t, two, 0, impl.MaxTurn, 0, impl.MaxTurn/2000)
	checkTurnBy(t, two, 0, -impl.MaxTurn, 0, -impl.MaxTurn/2000)
	checkTurnBy(t, two, 1999, impl.MaxTurn, 1999, impl.MaxTurn/2000)
	checkTurnBy(t, two, 1999, 1-impl.MaxTurn, 0, 1-impl.MaxTurn/2000)
	checkTurnBy(t, two, 0, 1-impl.MaxTurn, 1, -impl.MaxTurn/2000)
	checkTurnBy(t, all, impl.MaxTurn-1, impl.MaxTurn, impl.MaxTurn-1, 1)
	checkTurnBy(t, all, impl.MaxTurn-1, 1, 0, 1)
	checkTurnBy(t, all, 0, -1, impl.MaxTurn-1, -1)
	checkTurnBy(t, all, 0, -impl.MaxTurn, 0, -1)
	for _, by := range []int64{impl.MaxTurn + 1, -impl.MaxTurn - 1, math.MaxInt64, math.MinInt64} {
		_, _, code := impl.TurnBy(two, 0, by)
		mustCode(t, "TurnBy beyond the limit", code, impl.ErrRange)
	}
}

// TestTurnsThatAreNone checks what each function with a turn refuses.
func TestTurnsThatAreNone(t *testing.T) {
	for _, m := range append(smallMotions(), limitMotion(), fullMotion()) {
		span, _ := impl.SpanOf(m)
		for _, turn := range []int64{0, span - 1, span, span + 1, -1, -span, impl.MaxTurn + 1, math.MaxInt64, math.MinInt64} {
			want := int64(impl.ErrRange)
			if turn == 0 || turn == span-1 {
				want = impl.OK
			}
			_, code := impl.PartsAt(m, turn)
			mustCode(t, "PartsAt", code, want)
			_, _, code = impl.TurnBy(m, turn, 5)
			mustCode(t, "TurnBy", code, want)
			_, code = impl.RightDigits(m, turn)
			mustCode(t, "RightDigits", code, want)
			_, code = impl.WrongWheels(m, turn, impl.EyNear)
			mustCode(t, "WrongWheels", code, want)
			_, code = impl.MovingWheels(m, turn)
			mustCode(t, "MovingWheels", code, want)
			_, _, code = impl.WorstRead(m, turn, turn, impl.EyNear)
			mustCode(t, "WorstRead", code, want)
		}
	}
}

// TestEyesThatAreNone checks what each function with an eye refuses.
func TestEyesThatAreNone(t *testing.T) {
	m := motion(impl.Stack{10, 10}, late(0))
	for _, eye := range []int64{-1, 2, 256, 1 << 32, math.MaxInt64, math.MinInt64} {
		_, code := impl.EyeReads(m, impl.Parts{}, eye)
		mustCode(t, "EyeReads", code, impl.ErrRange)
		_, code = impl.WrongWheels(m, 0, eye)
		mustCode(t, "WrongWheels", code, impl.ErrRange)
		_, _, code = impl.WorstRead(m, 0, 0, eye)
		mustCode(t, "WorstRead", code, impl.ErrRange)
		for _, p := range badParts() { // what is not valid comes ahead of the eye
			_, code = impl.EyeReads(m, p, eye)
			mustCode(t, "EyeReads of parts that are not valid", code, impl.ErrInvalid)
		}
	}
}

// TestInvalidParts checks what each function with parts refuses.
func TestInvalidParts(t *testing.T) {
	for _, j := range []impl.Joint{even(), late(0), late(999)} {
		m := motion(impl.Stack{10, 10}, j)
		for _, p := range badParts() {
			for _, x := range [][2]int64{{0, 0}, {1, 1000}, {2, 0}, {0, 1001}, {-1, math.MinInt64}} {
				_, code := impl.EyeReads(m, p, x[0])
				mustCode(t, "EyeReads", code, impl.ErrInvalid)
				_, code = impl.RightFrom(m, p)
				mustCode(t, "RightFrom", code, impl.ErrInvalid)
				_, code = impl.BumpParts(m, p, x[0], x[1])
				mustCode(t, "BumpParts", code, impl.ErrInvalid)
			}
		}
		most := impl.Parts{9999, 9999}
		_, code := impl.EyeReads(m, most, impl.EyNear)
		mustCode(t, "EyeReads of the greatest parts", code, impl.OK)
		_, code = impl.RightFrom(m, most)
		mustCode(t, "RightFrom the greatest parts", code, impl.OK)
		_, code = impl.BumpParts(m, most, 1, 1000)
		mustCode(t, "BumpParts of the greatest parts", code, impl.OK)
	}
}

// TestFirstMove walks until each wheel has moved.
func TestFirstMove(t *testing.T) {
	for _, m := range smallMotions() {
		first := map[int]int64{}
		walkSpan(m, func(c *crank) {
			for wheel, parts := range c.parts() {
				if _, moved := first[wheel]; parts != 0 && !moved {
					first[wheel] = c.turn
				}
			}
		})
		for wheel := range m.Stack {
			if turn, code := impl.FirstMove(m, int64(wheel)); turn != first[wheel] || code != impl.OK {
				t.Errorf("FirstMove(%v, %d) = %d, %d, want %d", m, wheel, turn, code, first[wheel])
			}
		}
	}
}

func TestFirstMoveByHand(t *testing.T) {
	tests := []struct {
		m     impl.Motion
		wheel int64
		want  int64
	}{
		{motion(impl.Stack{10, 10}, even()), 0, 1},
		{motion(impl.Stack{10, 10}, even()), 1, 10},
		{motion(impl.Stack{7, 10}, even()), 1, 7},
		{motion(impl.Stack{10, 10, 10}, even(), even()), 2, 100},
		{motion(impl.Stack{10, 10}, late(0)), 1, 9001},
		{motion(impl.Stack{10, 10}, late(500)), 1, 9501},
		{motion(impl.Stack{10, 10}, late(998)), 1, 9999},
		{motion(impl.Stack{10, 10}, late(999)), 1, 10000}, // there is no part left between
		{motion(impl.Stack{2, 2, 2}, late(999), late(0)), 2, 4000},
		{motion(impl.Stack{2, 2, 2}, late(500), late(1)), 2, 3501},
		{motion(impl.Stack{10, 10, 10}, late(0), even()), 2, 9010},
		{motion(impl.Stack{10, 10, 10}, even(), late(0)), 2, 90010},
		// The wheel 4 is turned by a wheel that jumps from digit to digit, at each 10^8 counts.
		{limitMotion(), 4, 100000000 * 1000},
		{limitMotion(), 5, 100000000 * 1000},
	}
	for _, x := range tests {
		if turn, code := impl.FirstMove(x.m, x.wheel); turn != x.want || code != impl.OK {
			t.Errorf("FirstMove(%v, %d) = %d, %d, want %d", x.m, x.wheel, turn, code, x.want)
		}
	}
	for _, m := range []impl.Motion{limitMotion(), fullMotion()} {
		for wheel := range int64(len(m.Stack)) {
			turn, code := impl.FirstMove(m, wheel)
			mustCode(t, "FirstMove", code, impl.OK)
			if mustParts(t, m, turn)[wheel] == 0 || mustParts(t, m, turn-1)[wheel] != 0 {
				t.Errorf("the wheel %d of %v does not first move at %d", wheel, m, turn)
			}
		}
		for _, wheel := range []int64{-1, int64(len(m.Stack)), 8, 1 << 32, math.MaxInt64, math.MinInt64} {
			_, code := impl.FirstMove(m, wheel)
			mustCode(t, "FirstMove of no wheel", code, impl.ErrRange)
		}
	}
}

// TestBumpParts turns a wheel alone by single parts, forward and back.
func TestBumpParts(t *testing.T) {
	m := motion(impl.Stack{2, 3, 2}, late(0), even())
	for wheel, base := range m.Stack {
		end := int64(base) * 1000
		for _, start := range []int64{0, 1, 999, 1000, 1001, end - 1, end - 1000, end - 999} {
			p := impl.Parts{1234, 2345, 1999}
			p[wheel] = start
			ahead, behind := p, p
			for by := range int64(1001) {
				checkBump(t, m, p, wheel, by, ahead)
				checkBump(t, m, p, wheel, -by, behind)
				if ahead[wheel]++; ahead[wheel] == end {
					ahead[wheel] = 0
				}
				if behind[wheel]--; behind[wheel] < 0 {
					behind[wheel] = end - 1
				}
			}
		}
		for _, by := range []int64{1001, -1001, math.MaxInt64, math.MinInt64} {
			_, code := impl.BumpParts(m, impl.Parts{}, int64(wheel), by)
			mustCode(t, "BumpParts by too much", code, impl.ErrRange)
		}
	}
	for _, wheel := range []int64{-1, 3, 7, 8, 1 << 32, math.MaxInt64, math.MinInt64} {
		_, code := impl.BumpParts(m, impl.Parts{}, wheel, 0)
		mustCode(t, "BumpParts of no wheel", code, impl.ErrRange)
	}
}

func checkBump(t *testing.T, m impl.Motion, p impl.Parts, wheel int, by int64, want impl.Parts) {
	t.Helper()
	if got, code := impl.BumpParts(m, p, int64(wheel), by); got != want || code != impl.OK {
		t.Fatalf("BumpParts(%v, %v, %d, %d) = %v, %d, want %v", m, p, wheel, by, got, code, want)
	}
}

// TestWorstRead looks through all turns of a range, one after the other.
func TestWorstRead(t *testing.T) {
	for _, m := range smallMotions() {
		span, _ := impl.SpanOf(m)
		var wrong []int
		for turn := range span {
			list, _ := impl.WrongWheels(m, turn, impl.EyNear)
			wrong = append(wrong, len(list))
		}
		for low := int64(0); low < span; low += 731 {
			for _, width := range []int64{0, 1, 168, 499, 500, 1700, 4000, 10000} {
				high := min(span-1, low+width)
				most := slices.Max(wrong[low : high+1])
				first := low + int64(slices.Index(wrong[low:high+1], most))
				if at, n, code := impl.WorstRead(m, low, high, impl.EyNear); at != first || n != int64(most) || code != impl.OK {
					t.Fatalf("WorstRead(%v, %d, %d, EyNear) = %d, %d, %d, want %d, %d", m, low, high, at, n, code, first, most)
				}
			}
		}
	}
}

func TestWorstReadByHand(t *testing.T) {
	m := motion(impl.Stack{10, 10, 10}, late(0), late(0))
	tests := []struct{ low, high, at, most int64 }{
		{0, 0, 0, 0},
		{0, 499, 0, 0},
		{0, 500, 500, 1},
		{1000, 1499, 1000, 0},
		{777, 9499, 777, 1},
		{0, 10000, 9500, 2},
		{9600, 9700, 9600, 2},
		{90000, 99999, 99500, 3},
		{99999, 109999, 99999, 3},
		{100000, 110000, 109500, 2},
		{989999, 999999, 999500, 3},
		{999999, 999999, 999999, 3},
	}
	for _, x := range tests {
		if at, most, code := impl.WorstRead(m, x.low, x.high, impl.EyNear); at != x.at || most != x.most || code != impl.OK {
			t.Errorf("WorstRead(%d, %d) = %d, %d, %d, want %d, %d", x.low, x.high, at, most, code, x.at, x.most)
		}
	}
	if at, most, code := impl.WorstRead(limitMotion(), impl.MaxTurn-10000, impl.MaxTurn-1, impl.EyNear); at != impl.MaxTurn-9500 || most != 5 || code != impl.OK {
		t.Errorf("WorstRead at the end of the greatest span: %d, %d, %d", at, most, code)
	}
}

// TestWorstReadErrors checks ranges of turns: 10000 from low to high, and one more.
func TestWorstReadErrors(t *testing.T) {
	m := motion(impl.Stack{10, 10}, late(0))
	tests := []struct{ low, high, eye, want int64 }{
		{0, 10000, 1, impl.OK},
		{0, 10001, 1, impl.ErrRange},
		{89999, 99999, 1, impl.OK},
		{89998, 99999, 1, impl.ErrRange},
		{5, 5, 0, impl.OK},
		{5, 4, 0, impl.ErrRange},
		{99999, 0, 0, impl.ErrRange},
		{99999, 99999, 0, impl.OK},
		{99999, 100000, 0, impl.ErrRange},
		{100000, 100000, 0, impl.ErrRange},
		{-1, 0, 0, impl.ErrRange},
		{-1, -1, 0, impl.ErrRange},
		{0, -1, 0, impl.ErrRange},
		{0, 5, 2, impl.ErrRange},
		{0, 5, -1, impl.ErrRange},
		{math.MinInt64, math.MaxInt64, 0, impl.ErrRange},
		{math.MaxInt64, math.MinInt64, 0, impl.ErrRange},
		{0, math.MaxInt64, 0, impl.ErrRange},
	}
	for _, x := range tests {
		if at, most, code := impl.WorstRead(m, x.low, x.high, x.eye); code != x.want || code != impl.OK && (at != 0 || most != 0) {
			t.Errorf("WorstRead(%d, %d, %d) = %d, %d, %d, want the code %d", x.low, x.high, x.eye, at, most, code, x.want)
		}
	}
}

func TestMotionTexts(t *testing.T) {
	tests := []struct {
		m    impl.Motion
		text string
	}{
		{motion(impl.Stack{10}), "10"},
		{motion(impl.Stack{10, 10}, even()), "10:10 even"},
		{motion(impl.Stack{10, 9}, late(0)), "9:10 late0"},
		{motion(impl.Stack{60, 60, 24}, late(999), even()), "24:60:60 late999 even"},
		{limitMotion(), "100:100:100:100:100:100 even late0 late500 late999 even"},
		{fullMotion(), "2:5:3:100:2:9:2:10 late700 even late0 even late999 late1 even"},
	}
	for _, x := range tests {
		if text := impl.MotionText(x.m); text != x.text {
			t.Errorf("MotionText(%v) = %q, want %q", x.m, text, x.text)
		}
	}
	for _, m := range append(smallMotions(), limitMotion(), fullMotion()) {
		text := impl.MotionText(m)
		if back, code := impl.ReadMotion(text); !impl.SameMotion(back, m) || code != impl.OK {
			t.Errorf("%v is written %q, and read %v, %d", m, text, back, code)
		}
	}
	for from := range int16(1000) {
		m := motion(impl.Stack{10, 10}, late(from))
		if back, code := impl.ReadMotion(impl.MotionText(m)); !impl.SameMotion(back, m) || code != impl.OK {
			t.Errorf("%v is written %q, and read %v, %d", m, impl.MotionText(m), back, code)
		}
	}
	for i, m := range badMotions() {
		if text := impl.MotionText(m); text != "" {
			t.Errorf("the bad motion %d has the text %q", i, short(text))
		}
	}
}

func TestMotionTextsThatAreNone(t *testing.T) {
	for _, text := range []string{
		"", " ", "10:10", "10 even", "10 ", " 10", "1", "even", "late5", "10:10 even even", "10:10:10 even", "10:10  even",
		"10:10 even ", " 10:10 even", "10:10 even\n", "10:10\teven", "10:10 Even", "10:10 even0", "10:10 even 0", "10:10 eve",
		"10:10 late", "10:10 late 5", "10:10 late1000", "10:10 late32767", "10:10 late32768", "10:10 late65536", "10:10 late-1",
		"10:10 late-0", "10:10 late+5", "10:10 late05", "10:10 late00", "10:10 late5x", "10:10 late0x5", "10:10 late1_0", "10:10 late٥",
		"10:10 late5.0", "10:10 late5\x00", "10:10 5", "10:10 -5", "10:10 latelate5", "10:10 late99999999999999999999", "10:101 even",
		"010:10 even", "1:10 even", "10:10 even;", "10:10,even", "10:10 \xff", "2:2:2:2:2:2:2:2 even even even even even even",
		"2:2:2:2:2:2:2:2 even even even even even even even even", "2:2:2:2:2:2:2:2:2 even even even even even even even even",
		"2:2:2:2:2:2:2:2 even even even even even even even ", "10:10 even late5",
	} {
		if m, code := impl.ReadMotion(text); !impl.SameMotion(m, impl.Motion{}) || code != impl.ErrSyntax {
			t.Errorf("ReadMotion(%q) = %v, %d", text, m, code)
		}
	}
	for _, part := range []string{"1", "0", ":", " ", "10:", "even ", " late5", "2 ", "\x00"} {
		long := strings.Repeat(part, 1000000/len(part))
		for _, text := range []string{long, "10:10 late" + long, "10:10 even" + long} {
			if m, code := impl.ReadMotion(text); !impl.SameMotion(m, impl.Motion{}) || code != impl.ErrSyntax {
				t.Errorf("ReadMotion of many %q gives %v, %d", part, m, code)
			}
		}
	}
}
