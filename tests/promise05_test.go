package tests

import (
	"slices"
	"testing"

	"loop.example/g01278/impl"
)

// TestPromise5Rest checks that a wheel that is let go rests at the last tooth, at
// or before its turn, for all teeth that there may be.
func TestPromise5Rest(t *testing.T) {
	for _, teeth := range allTeeth() {
		p := pawl{gap: 1000 / teeth}
		tooth := int64(0)
		for turn := range int64(3001) {
			if turn > 0 {
				p.on()
			}
			if p.turn%p.gap == 0 {
				tooth = p.turn
			}
			if rest, code := impl.RestAt(turn, teeth); rest != tooth || code != impl.OK {
				t.Fatalf("RestAt(%d, %d) = %d, %d, want %d", turn, teeth, rest, code, tooth)
			}
		}
	}
}

// TestPromise5Clicks counts teeth by single parts.
func TestPromise5Clicks(t *testing.T) {
	for _, teeth := range allTeeth() {
		for turn := int64(0); turn <= 1300; turn += 13 {
			p := pawl{gap: 1000 / teeth, turn: turn}
			for by := range int64(1200) {
				if n, code := impl.ClicksOf(turn, by, teeth); n != p.passed || code != impl.OK {
					t.Fatalf("ClicksOf(%d, %d, %d) = %d, %d, want %d", turn, by, teeth, n, code, p.passed)
				}
				p.on()
			}
		}
	}
}

// TestPromise5Moves makes moves of many kinds, with a pawl that goes by single
// parts beside them.
func TestPromise5Moves(t *testing.T) {
	for _, teeth := range allTeeth() {
		gap := 1000 / teeth
		sizes := []int64{0, 1, -1, gap, -gap, gap - 1, 1 - gap, gap + 1, -gap - 1, 2 * gap, -2 * gap, 137, -89, 1500, -4000}
		for start := int64(0); start < 1500; start += 61 {
			p := pawl{gap: gap, turn: start}
			var moves []int64
			for i := range int64(100) {
				moves = append(moves, sizes[(start*start+i*i*7+i*3)%int64(len(sizes))])
				p.move(moves[i])
				turn, passed, code := impl.BackAndForth(start, moves, teeth)
				if turn != p.turn || passed != p.passed || code != impl.OK {
					t.Fatalf("BackAndForth(%d, %v, %d) = %d, %d, %d, want %d, %d", start, moves, teeth, turn, passed, code, p.turn, p.passed)
				}
			}
		}
	}
}

// TestPromise5NeverBack checks that no move leads behind a tooth that was passed
// at any time before.
func TestPromise5NeverBack(t *testing.T) {
	moves := []int64{700, -300, 400, -2000, impl.MaxTurn / 2, -impl.MaxTurn, 999, -1, -impl.MaxTurn, 1, -1, -1}
	for _, teeth := range allTeeth() {
		for _, start := range []int64{0, 1, 249, 250, 999, 1000, impl.MaxTurn/2 - 5000} {
			highest := start
			for n := range len(moves) + 1 {
				turn, passed, code := impl.BackAndForth(start, moves[:n], teeth)
				highest = max(highest, turn)
				rest, _ := impl.RestAt(highest, teeth)
				clicks, _ := impl.ClicksOf(start, highest-start, teeth)
				if code != impl.OK || turn < rest || passed != clicks {
					t.Fatalf("BackAndForth(%d, %v, %d) = %d, %d, %d: not behind %d, with %d teeth", start, moves[:n], teeth, turn, passed, code, rest, clicks)
				}
			}
		}
	}
}

// TestPromise5ByHand has moves that have been worked out by hand.
func TestPromise5ByHand(t *testing.T) {
	tests := []struct {
		turn   int64
		moves  []int64
		teeth  int64
		behind int64
		passed int64
	}{
		{900, []int64{-300, 400, -100}, 4, 1050, 1},
		{900, nil, 4, 900, 0},
		{900, []int64{0}, 4, 900, 0},
		{900, []int64{-150}, 4, 750, 0},
		{900, []int64{-151}, 4, 750, 0},
		{900, []int64{-149}, 4, 751, 0},
		{750, []int64{-1}, 4, 750, 0}, // a tooth that has been reached has been passed
		{749, []int64{1, -1}, 4, 750, 1},
		{749, []int64{1, -1, 1, -1}, 4, 750, 1},
		{0, []int64{-5}, 1, 0, 0},
		{0, []int64{999, -5}, 1, 994, 0},
		{0, []int64{999, -5, 6, -5}, 1, 1000, 1},
		{7, []int64{-5}, 1000, 7, 0}, // there is a tooth at each part
		{7, []int64{5}, 1000, 12, 5},
		{0, []int64{impl.MaxTurn}, 1000, impl.MaxTurn, impl.MaxTurn},
		{0, []int64{impl.MaxTurn}, 1, impl.MaxTurn, impl.MaxTurn / 1000},
		{impl.MaxTurn, []int64{0}, 1, impl.MaxTurn, 0},
		{impl.MaxTurn, []int64{-impl.MaxTurn}, 1, impl.MaxTurn, 0},
		{impl.MaxTurn - 1, []int64{-impl.MaxTurn, 1000}, 1, impl.MaxTurn, 1},
		{impl.MaxTurn - 1, []int64{-1, 2}, 1, impl.MaxTurn, 1},
		{5, slices.Repeat([]int64{10, -10}, 50), 200, 505, 100},
	}
	for _, x := range tests {
		turn, passed, code := impl.BackAndForth(x.turn, x.moves, x.teeth)
		if turn != x.behind || passed != x.passed || code != impl.OK {
			t.Errorf("BackAndForth(%d, %v, %d) = %d, %d, %d, want %d, %d", x.turn, x.moves, x.teeth, turn, passed, code, x.behind, x.passed)
		}
	}
}

// TestPromise5Great checks the greatest turns.
func TestPromise5Great(t *testing.T) {
	for _, teeth := range allTeeth() {
		gap := 1000 / teeth
		for _, x := range [][3]int64{ // a turn, by how many parts it goes on, and the teeth that are passed
			{0, impl.MaxTurn, impl.MaxTurn / gap},
			{impl.MaxTurn, impl.MaxTurn, impl.MaxTurn / gap},
			{impl.MaxTurn - 1, impl.MaxTurn, impl.MaxTurn / gap},
			{impl.MaxTurn - 1, 1, 1},
			{impl.MaxTurn, gap - 1, 0},
			{impl.MaxTurn, gap, 1},
		} {
			if n, code := impl.ClicksOf(x[0], x[1], teeth); n != x[2] || code != impl.OK {
				t.Errorf("ClicksOf(%d, %d, %d) = %d, %d, want %d", x[0], x[1], teeth, n, code, x[2])
			}
		}
		if rest, code := impl.RestAt(impl.MaxTurn, teeth); rest != impl.MaxTurn || code != impl.OK {
			t.Errorf("RestAt(MaxTurn, %d) = %d, %d", teeth, rest, code)
		}
		if rest, code := impl.RestAt(impl.MaxTurn-1, teeth); rest != impl.MaxTurn-gap || code != impl.OK {
			t.Errorf("RestAt(MaxTurn - 1, %d) = %d, %d", teeth, rest, code)
		}
	}
}

// TestPromise5Errors checks what the functions of ratchets refuse.
func TestPromise5Errors(t *testing.T) {
	for teeth := int64(-10); teeth <= 2010; teeth++ {
		want := int64(impl.ErrRange)
		if slices.Contains(allTeeth(), teeth) {
			want = impl.OK
		}
		checkRatchets(t, 5, 5, teeth, want)
	}
	for _, bad := range []int64{-1, impl.MaxTurn + 1, -impl.MaxTurn, 1<<63 - 1, -1 << 63} {
		checkRatchets(t, bad, 5, 4, impl.ErrRange)
		_, code := impl.ClicksOf(5, bad, 4)
		mustCode(t, "ClicksOf by too much", code, impl.ErrRange)
		checkRatchets(t, 5, 5, bad, impl.ErrRange)
	}
}

func checkRatchets(t *testing.T, turn, by, teeth, want int64) {
	t.Helper()
	_, code := impl.ClicksOf(turn, by, teeth)
	mustCode(t, "ClicksOf", code, want)
	_, code = impl.RestAt(turn, teeth)
	mustCode(t, "RestAt", code, want)
	_, _, code = impl.BackAndForth(turn, []int64{by}, teeth)
	mustCode(t, "BackAndForth", code, want)
}

// TestPromise5MoveErrors checks the limits of moves: a range is checked in all of
// them before any one is made.
func TestPromise5MoveErrors(t *testing.T) {
	most := int64(impl.MaxTurn)
	tests := []struct {
		turn  int64
		moves []int64
		teeth int64
		want  int64
	}{
		{0, make([]int64, 100), 4, impl.OK},
		{0, make([]int64, 101), 4, impl.ErrRange},
		{0, make([]int64, 1000000), 4, impl.ErrRange},
		{0, []int64{most}, 4, impl.OK},
		{0, []int64{most + 1}, 4, impl.ErrRange},
		{0, []int64{-most}, 4, impl.OK},
		{0, []int64{-most - 1}, 4, impl.ErrRange},
		{0, []int64{1<<63 - 1}, 4, impl.ErrRange},
		{0, []int64{-1 << 63}, 4, impl.ErrRange},
		{1, []int64{most}, 4, impl.ErrLimit},
		{1, []int64{most - 1}, 4, impl.OK},
		{most, []int64{1}, 4, impl.ErrLimit},
		{most, []int64{1, -1}, 4, impl.ErrLimit}, // though it would come back
		{most, []int64{0, -1, 0}, 4, impl.OK},
		{most, []int64{most}, 1000, impl.ErrLimit},
		{0, []int64{most, 1, most}, 4, impl.ErrLimit},
		{0, []int64{most, 1, most + 1}, 4, impl.ErrRange}, // a range ahead of a limit
		{most, []int64{1}, 3, impl.ErrRange},
		{most, append([]int64{1}, make([]int64, 100)...), 4, impl.ErrRange},
		{most + 1, []int64{1}, 4, impl.ErrRange},
		{-1, []int64{1}, 4, impl.ErrRange},
		{-1, nil, 4, impl.ErrRange},
	}
	for _, x := range tests {
		_, _, code := impl.BackAndForth(x.turn, x.moves, x.teeth)
		if code != x.want {
			t.Errorf("BackAndForth(%d, %d moves %v.., %d): code %d, want %d", x.turn, len(x.moves), x.moves[:min(len(x.moves), 3)], x.teeth, code, x.want)
		}
	}
}
