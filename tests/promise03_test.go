package tests

import (
	"testing"

	"loop.example/g01278/impl"
)

// TestPromise3Walk checks at each turn of a whole span that what has been passed
// is read right: the digits that a counter shows that goes on by single parts.
func TestPromise3Walk(t *testing.T) {
	for _, m := range smallMotions() {
		walkSpan(m, func(c *crank) { checkPassed(t, m, c.turn, c.o.shows) })
	}
}

func checkPassed(t *testing.T, m impl.Motion, turn int64, want impl.Digits) {
	t.Helper()
	p := mustParts(t, m, turn)
	if read, code := impl.EyeReads(m, p, impl.EyDown); read != want || code != impl.OK {
		t.Fatalf("%v: at %d the eye reads %v, code %d, want %v", m, turn, read, code, want)
	}
	if right, code := impl.RightDigits(m, turn); right != want || code != impl.OK {
		t.Fatalf("RightDigits(%v, %d) = %v, %d, want %v", m, turn, right, code, want)
	}
	if wrong, code := impl.WrongWheels(m, turn, impl.EyDown); len(wrong) > 0 || code != impl.OK {
		t.Fatalf("WrongWheels(%v, %d, EyDown) = %v, %d", m, turn, wrong, code)
	}
}

// TestPromise3Great checks turns of motions that are too great to be walked through.
func TestPromise3Great(t *testing.T) {
	for _, m := range []impl.Motion{limitMotion(), fullMotion()} {
		for _, turn := range greatTurns(t, m) {
			want, code := impl.DigitsOf(m.Stack, turn/1000)
			mustCode(t, "DigitsOf", code, impl.OK)
			checkPassed(t, m, turn, want)
		}
	}
}

// greatTurns are the ends of a span, both sides of each carry near to them, and
// many turns between.
func greatTurns(t *testing.T, m impl.Motion) []int64 {
	t.Helper()
	span, code := impl.SpanOf(m)
	mustCode(t, "SpanOf", code, impl.OK)
	list := []int64{0, 1, span - 1, span - 2}
	for wheel := range m.Stack {
		place, _ := impl.PlaceOf(m.Stack, int64(wheel))
		for _, carry := range []int64{place * 1000, span - place*1000} {
			list = append(list, carry-500, carry-1, carry, carry+1)
		}
	}
	for i := range int64(2000) {
		list = append(list, (i*i*1000003+i*777767777)%span)
	}
	return list
}

// TestPromise3Worst checks that such an eye has no turn that is worse than the first one.
func TestPromise3Worst(t *testing.T) {
	for _, m := range smallMotions() {
		span, _ := impl.SpanOf(m)
		for low := int64(0); low < span; low += 997 {
			high := min(span-1, low+10000)
			if at, n, code := impl.WorstRead(m, low, high, impl.EyDown); at != low || n != 0 || code != impl.OK {
				t.Fatalf("WorstRead(%v, %d, %d, EyDown) = %d, %d, %d", m, low, high, at, n, code)
			}
		}
	}
}
