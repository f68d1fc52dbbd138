package tests

import (
	"testing"

	"loop.example/g01278/impl"
)

// TestPromise4Walk reads parts that are off by less than half of a digit, at each
// turn of a whole span.
func TestPromise4Walk(t *testing.T) {
	offs := []int64{0, 499, -499, 1, -1, 498, -498, 250, -333}
	for _, m := range smallMotions() {
		walkSpan(m, func(c *crank) {
			for shift := range 3 {
				off := impl.Parts{}
				for wheel := 1; wheel < len(m.Stack); wheel++ {
					off[wheel] = offs[(int(c.turn)+wheel*5+shift*2)%len(offs)]
				}
				checkOff(t, m, c.turn, off, c.o.shows)
			}
		})
	}
}

// checkOff checks what is read at a turn if each wheel is off by some parts.
func checkOff(t *testing.T, m impl.Motion, turn int64, off impl.Parts, want impl.Digits) {
	t.Helper()
	p := mustParts(t, m, turn)
	for wheel := range m.Stack {
		bumped, code := impl.BumpParts(m, p, int64(wheel), off[wheel])
		if code != impl.OK {
			t.Fatalf("BumpParts(%v, %v, %d, %d): code %d", m, p, wheel, off[wheel], code)
		}
		p = bumped
	}
	if d, code := impl.RightFrom(m, p); d != want || code != impl.OK {
		t.Fatalf("%v: at %d, off by %v, RightFrom(%v) = %v, %d, want %v", m, turn, off, p, d, code, want)
	}
}

// TestPromise4Great checks turns of motions that are too great to be walked through.
func TestPromise4Great(t *testing.T) {
	for _, m := range []impl.Motion{limitMotion(), fullMotion()} {
		for _, turn := range greatTurns(t, m) {
			want, _ := impl.DigitsOf(m.Stack, turn/1000)
			for _, by := range []int64{0, 499, -499, 77, -400} {
				off := impl.Parts{}
				for wheel := 1; wheel < len(m.Stack); wheel++ {
					off[wheel] = by
					by = -by
				}
				checkOff(t, m, turn, off, want)
			}
		}
	}
}

// TestPromise4Half bumps the last wheel by just a half of a digit, and by one part
// more and less: a half goes up.
func TestPromise4Half(t *testing.T) {
	for _, m := range smallMotions() {
		last := len(m.Stack) - 1
		if last == 0 {
			continue
		}
		base := m.Stack[last]
		walkSpan(m, func(c *crank) {
			up, down := c.o.shows, c.o.shows
			up[last] = (up[last] + 1) % base
			down[last] = (down[last] + base - 1) % base
			for _, x := range []struct {
				by   int64
				want impl.Digits
			}{{499, c.o.shows}, {500, up}, {501, up}, {1000, up}, {-499, c.o.shows}, {-500, c.o.shows}, {-501, down}, {-1000, down}} {
				off := impl.Parts{}
				off[last] = x.by
				checkOff(t, m, c.turn, off, x.want)
			}
		})
	}
}

// TestPromise4AllParts checks what is read from parts of every kind, right or not,
// against the digits that are off by no more than a half.
func TestPromise4AllParts(t *testing.T) {
	for _, m := range append(smallMotions(), limitMotion(), fullMotion()) {
		for i := range int64(5000) {
			p := impl.Parts{}
			for wheel, base := range m.Stack {
				p[wheel] = (i*i*7919 + i*104729*int64(wheel+1)) % (int64(base) * 1000)
			}
			checkRightFrom(t, m, p)
			for wheel := 1; wheel < len(m.Stack); wheel++ {
				p[wheel] = i % 1100 // where a wheel is read back over its digit 0
			}
			checkRightFrom(t, m, p)
		}
	}
}

func checkRightFrom(t *testing.T, m impl.Motion, p impl.Parts) {
	t.Helper()
	if d, code := impl.RightFrom(m, p); d != rightByWords(m, p) || code != impl.OK {
		t.Fatalf("RightFrom(%v, %v) = %v, %d, want %v", m, p, d, code, rightByWords(m, p))
	}
}

// TestPromise4ByHand has parts whose digits have been worked out by hand.
func TestPromise4ByHand(t *testing.T) {
	lateZero := motion(impl.Stack{10, 10}, late(0))
	evenTen := motion(impl.Stack{10, 10}, even())
	three := motion(impl.Stack{10, 10, 10}, late(0), late(0))
	tests := []struct {
		m    impl.Motion
		p    impl.Parts
		want impl.Digits
	}{
		{lateZero, impl.Parts{9500, 700}, impl.Digits{9, 0}},
		{lateZero, impl.Parts{9500, 999}, impl.Digits{9, 0}},
		{lateZero, impl.Parts{9500, 1000}, impl.Digits{9, 1}},      // just a half beyond 500
		{lateZero, impl.Parts{9500, 0}, impl.Digits{9, 0}},         // just a half before 500
		{lateZero, impl.Parts{9501, 0}, impl.Digits{9, 9}},         // and more: back over 0
		{lateZero, impl.Parts{9999, 498}, impl.Digits{9, 9}},       // 501 before 999
		{lateZero, impl.Parts{9999, 499}, impl.Digits{9, 0}},       // 500 before it
		{lateZero, impl.Parts{0, 499}, impl.Digits{0, 0}},          //
		{lateZero, impl.Parts{0, 500}, impl.Digits{0, 1}},          //
		{lateZero, impl.Parts{0, 9499}, impl.Digits{0, 9}},         //
		{lateZero, impl.Parts{0, 9500}, impl.Digits{0, 0}},         // the base is read as 0
		{lateZero, impl.Parts{0, 9999}, impl.Digits{0, 0}},         //
		{evenTen, impl.Parts{9500, 1449}, impl.Digits{9, 0}},       // 499 beyond 950
		{evenTen, impl.Parts{9500, 1450}, impl.Digits{9, 1}},       //
		{evenTen, impl.Parts{9500, 450}, impl.Digits{9, 0}},        //
		{evenTen, impl.Parts{9500, 449}, impl.Digits{9, 9}},        //
		{three, impl.Parts{9500, 9700, 700}, impl.Digits{9, 9, 0}}, // the wheel 1 should be at 9500
		{three, impl.Parts{9500, 9000, 0}, impl.Digits{9, 9, 0}},   // 500 before, twice
		{three, impl.Parts{9500, 8999, 0}, impl.Digits{9, 8, 0}},   // the wheel 2 should be at rest then
		{three, impl.Parts{9500, 8999, 500}, impl.Digits{9, 8, 1}}, // a half beyond rest
		{three, impl.Parts{500, 9500, 9400}, impl.Digits{0, 0, 9}}, // the wheel 1 is read as 0
		{three, impl.Parts{8999, 9499, 499}, impl.Digits{8, 9, 0}}, //
		{three, impl.Parts{8999, 9499, 500}, impl.Digits{8, 9, 1}}, //
		{motion(impl.Stack{10}), impl.Parts{9999}, impl.Digits{9}}, // the wheel 0 is read down
		{motion(impl.Stack{2, 2}, late(999)), impl.Parts{1999, 1499}, impl.Digits{1, 1}},
		{motion(impl.Stack{2, 2}, late(999)), impl.Parts{1999, 1500}, impl.Digits{1, 0}},
	}
	for _, x := range tests {
		if d, code := impl.RightFrom(x.m, x.p); d != x.want || code != impl.OK {
			t.Errorf("RightFrom(%v, %v) = %v, %d, want %v", x.m, x.p, d, code, x.want)
		}
		if d := rightByWords(x.m, x.p); d != x.want {
			t.Errorf("rightByWords(%v, %v) = %v, want %v", x.m, x.p, d, x.want)
		}
	}
}
