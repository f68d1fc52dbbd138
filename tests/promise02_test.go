package tests

import (
	"testing"

	"loop.example/g01278/impl"
)

// TestPromise2Values checks that digits have their value, and values their digits.
func TestPromise2Values(t *testing.T) {
	for _, s := range smallStacks() {
		list := allDigits(s)
		size, code := impl.SizeOf(s)
		if code != impl.OK || size != int64(len(list)) {
			t.Fatalf("SizeOf(%v) = %d, %d", s, size, code)
		}
		for i, want := range list {
			value := int64(i)
			if d, code := impl.DigitsOf(s, value); code != impl.OK || d != want {
				t.Fatalf("DigitsOf(%v, %d) = %v, %d, want %v", s, value, d, code, want)
			}
			if v, code := impl.ValueOf(s, want); code != impl.OK || v != value {
				t.Fatalf("ValueOf(%v, %v) = %d, %d, want %d", s, want, v, code, value)
			}
			if !impl.ValidDigits(s, want) {
				t.Fatalf("ValidDigits(%v, %v) is false", s, want)
			}
		}
		for _, value := range []int64{-1, size, size + 1, -size} {
			_, code := impl.DigitsOf(s, value)
			mustCode(t, "DigitsOf a value that is none", code, impl.ErrRange)
		}
	}
}

// TestPromise2AddTo checks sums, rounds and moves against an odometer, forward
// and back over several rounds.
func TestPromise2AddTo(t *testing.T) {
	for _, s := range smallStacks() {
		list := allDigits(s)
		for _, d := range list {
			ahead, behind := odometer{bases: s, shows: d}, odometer{bases: s, shows: d}
			for count := range int64(4*len(list) + 2) {
				checkAdd(t, s, d, count, ahead)
				checkAdd(t, s, d, -count, behind)
				ahead.up()
				behind.down()
			}
		}
	}
}

func checkAdd(t *testing.T, s impl.Stack, d impl.Digits, count int64, want odometer) {
	t.Helper()
	sum, rounds, code := impl.AddTo(s, d, count)
	if code != impl.OK || sum != want.shows || rounds != want.rounds {
		t.Fatalf("AddTo(%v, %v, %d) = %v, %d, %d, want %v, %d", s, d, count, sum, rounds, code, want.shows, want.rounds)
	}
	moves, code := impl.MovesOf(s, d, count)
	if code != impl.OK || moves != want.moves {
		t.Fatalf("MovesOf(%v, %v, %d) = %v, %d, want %v", s, d, count, moves, code, want.moves)
	}
}

// TestPromise2AtOnce checks that counts that are added one behind the other are
// added at once, with the sums of their rounds and moves.
func TestPromise2AtOnce(t *testing.T) {
	for _, s := range []impl.Stack{{2}, {3, 2}, {2, 3, 2}, {60, 60, 24}, limitStack(), {2, 2, 2, 2, 2, 2, 2, 2}} {
		size, _ := impl.SizeOf(s)
		counts := []int64{0, 1, -1, 2, -5, size - 1, size, size + 1, -size, 1 - size, -size - 1, 7777, -123456,
			impl.MaxCount / 2, -impl.MaxCount / 2}
		for _, value := range []int64{0, 1, size / 3, size - 1} {
			d, _ := impl.DigitsOf(s, value)
			for _, a := range counts {
				for _, b := range counts {
					if max(a+b, -a-b) <= impl.MaxCount && max(a, -a, b, -b) <= impl.MaxCount {
						checkAtOnce(t, s, d, a, b)
					}
				}
			}
		}
	}
}

func checkAtOnce(t *testing.T, s impl.Stack, d impl.Digits, a, b int64) {
	t.Helper()
	one, rounds1, code1 := impl.AddTo(s, d, a)
	two, rounds2, code2 := impl.AddTo(s, one, b)
	both, rounds, code := impl.AddTo(s, d, a+b)
	if code1 != impl.OK || code2 != impl.OK || code != impl.OK || two != both || rounds1+rounds2 != rounds {
		t.Fatalf("%v %v: %d and then %d give %v and %d rounds, at once %v and %d", s, d, a, b, two, rounds1+rounds2, both, rounds)
	}
	value, _ := impl.ValueOf(s, d)
	sum, _ := impl.ValueOf(s, both)
	if size, _ := impl.SizeOf(s); sum+rounds*size != value+a+b {
		t.Fatalf("%v: %d + %d + %d gives %d and %d rounds", s, value, a, b, sum, rounds)
	}
	moves1, _ := impl.MovesOf(s, d, a)
	moves2, _ := impl.MovesOf(s, one, b)
	moves, _ := impl.MovesOf(s, d, a+b)
	for i := range moves {
		if moves[i] != moves1[i]+moves2[i] {
			t.Fatalf("%v %v: the wheel %d moves by %d and %d, at once by %d", s, d, i, moves1[i], moves2[i], moves[i])
		}
	}
}

// TestPromise2Steps checks steps up and down, and how many wheels they move.
func TestPromise2Steps(t *testing.T) {
	for _, s := range smallStacks() {
		for _, d := range allDigits(s) {
			ahead, behind := odometer{bases: s, shows: d}, odometer{bases: s, shows: d}
			wantUp, wantDown := ahead.up(), behind.down()
			up, moved, code := impl.StepUp(s, d)
			if code != impl.OK || up != ahead.shows || moved != wantUp {
				t.Fatalf("StepUp(%v, %v) = %v, %d, %d, want %v, %d", s, d, up, moved, code, ahead.shows, wantUp)
			}
			if back, again, code := impl.StepDown(s, up); code != impl.OK || back != d || again != moved {
				t.Fatalf("StepDown(%v, %v) = %v, %d, %d does not undo StepUp of %v", s, up, back, again, code, d)
			}
			down, moved, code := impl.StepDown(s, d)
			if code != impl.OK || down != behind.shows || moved != wantDown {
				t.Fatalf("StepDown(%v, %v) = %v, %d, %d, want %v, %d", s, d, down, moved, code, behind.shows, wantDown)
			}
		}
	}
}

// TestPromise2Backwards checks counts that go back over zero, by hand.
func TestPromise2Backwards(t *testing.T) {
	clock := mustRead(t, "24:60:60")
	tests := []struct {
		from   string
		count  int64
		to     string
		rounds int64
		moves  [8]int64
	}{
		{"00:00:00", -1, "23:59:59", -1, [8]int64{-1, -1, -1}},
		{"00:00:00", -86400, "00:00:00", -1, [8]int64{-86400, -1440, -24}},
		{"00:00:00", -86401, "23:59:59", -2, [8]int64{-86401, -1441, -25}},
		{"00:00:01", -86401, "00:00:00", -1, [8]int64{-86401, -1440, -24}},
		{"00:00:01", -86402, "23:59:59", -2, [8]int64{-86402, -1441, -25}},
		{"00:01:00", -1, "00:00:59", 0, [8]int64{-1, -1, 0}},
		{"00:01:00", -60, "00:00:00", 0, [8]int64{-60, -1, 0}},
		{"00:00:59", -59, "00:00:00", 0, [8]int64{-59, 0, 0}},
		{"23:59:59", -86399, "00:00:00", 0, [8]int64{-86399, -1439, -23}},
		{"12:00:00", -259200, "12:00:00", -3, [8]int64{-259200, -4320, -72}},
		{"23:59:59", 1, "00:00:00", 1, [8]int64{1, 1, 1}},
		{"00:00:00", 86399, "23:59:59", 0, [8]int64{86399, 1439, 23}},
		{"12:00:00", 259200, "12:00:00", 3, [8]int64{259200, 4320, 72}},
		{"00:00:00", impl.MaxCount, "01:46:40", 11574074, [8]int64{impl.MaxCount, 16666666666, 277777777}},
		{"00:00:00", -impl.MaxCount, "22:13:20", -11574075, [8]int64{-impl.MaxCount, -16666666667, -277777778}},
	}
	for _, x := range tests {
		d := mustDigits(t, clock, x.from)
		sum, rounds, code := impl.AddTo(clock, d, x.count)
		if got := impl.DigitsText(clock, sum); code != impl.OK || got != x.to || rounds != x.rounds {
			t.Errorf("AddTo %s and %d = %s, %d rounds, code %d; want %s, %d", x.from, x.count, got, rounds, code, x.to, x.rounds)
		}
		if moves, code := impl.MovesOf(clock, d, x.count); code != impl.OK || moves != x.moves {
			t.Errorf("MovesOf %s and %d = %v, code %d; want %v", x.from, x.count, moves, code, x.moves)
		}
	}
}

// TestPromise2Limits checks the greatest stack and the greatest counts.
func TestPromise2Limits(t *testing.T) {
	s := limitStack()
	all := impl.Digits{99, 99, 99, 99, 99, 99}
	if v, code := impl.ValueOf(s, all); v != impl.MaxCount-1 || code != impl.OK {
		t.Errorf("ValueOf the last value: %d, %d", v, code)
	}
	if d, code := impl.DigitsOf(s, impl.MaxCount-1); d != all || code != impl.OK {
		t.Errorf("DigitsOf the last value: %v, %d", d, code)
	}
	_, code := impl.DigitsOf(s, impl.MaxCount)
	mustCode(t, "DigitsOf MaxCount", code, impl.ErrRange)
	for _, x := range []struct {
		s             impl.Stack
		d             impl.Digits
		count, rounds int64
	}{
		{s, impl.Digits{}, impl.MaxCount, 1},
		{s, impl.Digits{}, -impl.MaxCount, -1},
		{s, all, impl.MaxCount, 1},
		{s, all, -impl.MaxCount, -1},
		{impl.Stack{2}, impl.Digits{}, impl.MaxCount, impl.MaxCount / 2},
		{impl.Stack{2}, impl.Digits{1}, -impl.MaxCount, -impl.MaxCount / 2},
	} {
		if d, rounds, code := impl.AddTo(x.s, x.d, x.count); d != x.d || rounds != x.rounds || code != impl.OK {
			t.Errorf("AddTo(%v, %v, %d) = %v, %d, %d", x.s, x.d, x.count, d, rounds, code)
		}
		if moves, code := impl.MovesOf(x.s, x.d, x.count); moves[0] != x.count || code != impl.OK {
			t.Errorf("MovesOf(%v, %v, %d) = %v, %d", x.s, x.d, x.count, moves, code)
		}
	}
	for _, count := range []int64{impl.MaxCount + 1, -impl.MaxCount - 1, 1<<63 - 1, -1 << 63} {
		_, _, code := impl.AddTo(s, all, count)
		mustCode(t, "AddTo beyond the limit", code, impl.ErrRange)
		_, code = impl.MovesOf(s, all, count)
		mustCode(t, "MovesOf beyond the limit", code, impl.ErrRange)
	}
}
