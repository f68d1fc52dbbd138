package tests

import (
	"fmt"
	"math"
	"slices"
	"testing"

	"loop.example/g01278/impl"
)

// TestPromise11All turns an odometer through all values, for all photos of stacks
// with few digits.
func TestPromise11All(t *testing.T) {
	for _, s := range []impl.Stack{{2}, {3}, {7}, {2, 2}, {2, 3}, {3, 2}, {4, 3}, {2, 3, 2}, {3, 2, 3}, {2, 2, 2, 2}} {
		size, _ := impl.SizeOf(s)
		for _, p := range allPhotos(s) {
			values := valuesByTrial(s, p)
			checkFound(t, s, p, values)
			for low := range size {
				for high := range size {
					checkCountIn(t, s, p, values, low, high)
				}
			}
		}
	}
}

// TestPromise11Wide does so for some photos of wheels with about 64 digits.
func TestPromise11Wide(t *testing.T) {
	for _, s := range append(wideStacks(), impl.Stack{10, 10}, impl.Stack{4, 5, 6}, impl.Stack{2, 3, 5, 7}) {
		size, _ := impl.SizeOf(s)
		for seed := range uint64(10) {
			p := madePhoto(s, 1+seed%8, seed)
			values := valuesByTrial(s, p)
			checkFound(t, s, p, values)
			ends := []int64{0, size - 1, size / 2, values[0], values[len(values)-1], values[len(values)/2]}
			for i := range int64(12) {
				ends = append(ends, i*i*7919%size)
			}
			for _, end := range slices.Clone(ends) {
				ends = append(ends, max(0, end-1), min(size-1, end+1))
			}
			for _, low := range ends {
				for _, high := range ends {
					checkCountIn(t, s, p, values, low, high)
				}
			}
		}
	}
}

// checkFound checks a photo against all values that are in it.
func checkFound(t *testing.T, s impl.Stack, p impl.Photo, values []int64) {
	t.Helper()
	if choices, code := impl.ChoicesOf(s, p); choices != int64(len(values)) || code != impl.OK {
		t.Fatalf("ChoicesOf(%v, %v) = %d, %d, want %d", s, p, choices, code, len(values))
	}
	if least, code := impl.LeastIn(s, p); least != values[0] || code != impl.OK {
		t.Fatalf("LeastIn(%v, %v) = %d, %d, want %d", s, p, least, code, values[0])
	}
	want, wantCode := values, int64(impl.OK)
	if len(values) > 400 {
		want, wantCode = nil, impl.ErrLimit
	}
	if list, code := impl.ValuesIn(s, p); !slices.Equal(list, want) || code != wantCode {
		t.Fatalf("ValuesIn(%v, %v) = %v, %d, want %v, %d", s, p, list, code, want, wantCode)
	}
	left := values
	for value, d := range allDigits(s) {
		in := len(left) > 0 && left[0] == int64(value)
		if shows, code := impl.Shows(s, p, d); shows != in || code != impl.OK {
			t.Fatalf("Shows(%v, %v, %v) = %v, %d", s, p, d, shows, code)
		}
		next, code := impl.NextIn(s, p, int64(value))
		if len(left) > 0 && (next != left[0] || code != impl.OK) || len(left) == 0 && (next != 0 || code != impl.ErrNotFound) {
			t.Fatalf("NextIn(%v, %v, %d) = %d, %d, left are %v", s, p, value, next, code, left)
		}
		if in {
			left = left[1:]
		}
	}
}

func checkCountIn(t *testing.T, s impl.Stack, p impl.Photo, values []int64, low, high int64) {
	t.Helper()
	want := int64(0)
	for _, value := range values {
		if value >= low && value <= high {
			want++
		}
	}
	if count, code := impl.CountIn(s, p, low, high); count != want || code != impl.OK {
		t.Fatalf("CountIn(%v, %v, %d, %d) = %d, %d, want %d", s, p, low, high, count, code, want)
	}
}

// TestPromise11ByHand has photos whose values are told here.
func TestPromise11ByHand(t *testing.T) {
	ten, wide := impl.Stack{10, 10}, impl.Stack{65, 100, 2}
	none := int64(-1)
	tests := []struct {
		s              impl.Stack
		text           string
		choices, least int64
		next           [][2]int64 // a value, and the least one from there on
	}{
		{ten, "1|7:?", 20, 10, [][2]int64{{0, 10}, {10, 10}, {19, 19}, {20, 70}, {70, 70}, {79, 79}, {80, none}, {99, none}}},
		{ten, "4:2", 1, 42, [][2]int64{{0, 42}, {41, 42}, {42, 42}, {43, none}, {99, none}}}, // one value
		{ten, "0:0", 1, 0, [][2]int64{{0, 0}, {1, none}, {99, none}}},
		{ten, "9:9", 1, 99, [][2]int64{{0, 99}, {98, 99}, {99, 99}}},
		{ten, "?:?", 100, 0, [][2]int64{{0, 0}, {57, 57}, {99, 99}}},
		{ten, "?:3|8", 20, 3, [][2]int64{{0, 3}, {3, 3}, {4, 8}, {8, 8}, {9, 13}, {13, 13}, {98, 98}, {99, none}}}, // a higher wheel goes on
		{ten, "2|5:3|8", 4, 23, [][2]int64{{0, 23}, {23, 23}, {24, 28}, {28, 28}, {29, 53}, {30, 53}, {53, 53}, {54, 58}, {58, 58}, {59, none}}},
		{impl.Stack{2}, "0", 1, 0, [][2]int64{{0, 0}, {1, none}}},
		{impl.Stack{2}, "1", 1, 1, [][2]int64{{0, 1}, {1, 1}}},
		{impl.Stack{10, 10, 10}, "1|2:9:0|9", 4, 190, [][2]int64{{0, 190}, {191, 199}, {200, 290}, {291, 299}, {299, 299}, {300, none}}},
		{impl.Stack{10, 10, 10}, "1|3:2|9:4", 4, 124, [][2]int64{{125, 194}, {195, 324}, {199, 324}, {299, 324}, {325, 394}, {394, 394}, {395, none}, {999, none}}},
		{impl.Stack{64}, "0|63", 2, 0, [][2]int64{{0, 0}, {1, 63}, {63, 63}}},
		{impl.Stack{65}, "63|64", 2, 63, [][2]int64{{0, 63}, {63, 63}, {64, 64}}},
		{impl.Stack{65}, "0|64", 2, 0, [][2]int64{{1, 64}, {63, 64}, {64, 64}}},
		{impl.Stack{65}, "64", 1, 64, [][2]int64{{0, 64}, {64, 64}}},
		{impl.Stack{100}, "63|64|99", 3, 63, [][2]int64{{0, 63}, {64, 64}, {65, 99}, {99, 99}}},
		{impl.Stack{100}, "0", 1, 0, [][2]int64{{0, 0}, {1, none}, {64, none}, {99, none}}}, // 64 is not 0
		{wide, "1:64|99:0|63|64", 6, (100+64)*65 + 0, [][2]int64{{0, 164 * 65}, {164*65 + 1, 164*65 + 63}, {164*65 + 64, 164*65 + 64}, {165 * 65, 199 * 65}, {199*65 + 64, 199*65 + 64}}},
		{limitStack(), "?:?:?:?:?:?", impl.MaxCount, 0, [][2]int64{{0, 0}, {123456789012, 123456789012}, {impl.MaxCount - 1, impl.MaxCount - 1}}},
		{limitStack(), "99:99:99:99:99:99", 1, impl.MaxCount - 1, [][2]int64{{0, impl.MaxCount - 1}, {impl.MaxCount - 2, impl.MaxCount - 1}, {impl.MaxCount - 1, impl.MaxCount - 1}}},
		{limitStack(), "0|99:?:?:?:?:64", 200000000, 64, [][2]int64{{65, 164}, {9999999999, 990000000064}, {9999999964, 9999999964}, {9999999965, 990000000064}, {999999999964, 999999999964}, {999999999965, none}}},
	}
	for _, x := range tests {
		p := mustPhoto(t, x.s, x.text)
		if choices, code := impl.ChoicesOf(x.s, p); choices != x.choices || code != impl.OK {
			t.Errorf("ChoicesOf(%v, %s) = %d, %d, want %d", x.s, x.text, choices, code, x.choices)
		}
		if least, code := impl.LeastIn(x.s, p); least != x.least || code != impl.OK {
			t.Errorf("LeastIn(%v, %s) = %d, %d, want %d", x.s, x.text, least, code, x.least)
		}
		for _, n := range x.next {
			want, wantCode := n[1], int64(impl.OK)
			if n[1] == none {
				want, wantCode = 0, impl.ErrNotFound
			}
			if next, code := impl.NextIn(x.s, p, n[0]); next != want || code != wantCode {
				t.Errorf("NextIn(%v, %s, %d) = %d, %d, want %d, %d", x.s, x.text, n[0], next, code, want, wantCode)
			}
		}
	}
}

func TestPromise11CountsByHand(t *testing.T) {
	ten, great := impl.Stack{10, 10}, limitStack()
	last := int64(impl.MaxCount - 1)
	tests := []struct {
		s         impl.Stack
		text      string
		low, high int64
		want      int64
	}{
		{ten, "1|7:?", 15, 72, 8},
		{ten, "1|7:?", 0, 99, 20},
		{ten, "1|7:?", 10, 10, 1}, // low is high
		{ten, "1|7:?", 19, 19, 1},
		{ten, "1|7:?", 20, 20, 0},
		{ten, "1|7:?", 0, 0, 0},
		{ten, "1|7:?", 99, 99, 0},
		{ten, "1|7:?", 79, 10, 0}, // low is greater
		{ten, "1|7:?", 11, 10, 0},
		{ten, "1|7:?", 99, 0, 0},
		{ten, "1|7:?", 20, 69, 0},
		{ten, "1|7:?", 19, 70, 2},
		{ten, "1|7:?", 20, 70, 1},
		{ten, "?:?", 0, 99, 100},
		{ten, "?:?", 99, 99, 1},
		{ten, "?:?", 0, 0, 1},
		{ten, "?:?", 17, 42, 26},
		{ten, "0:0", 0, 99, 1},
		{ten, "0:0", 1, 99, 0},
		{ten, "9:9", 0, 98, 0},
		{ten, "9:9", 0, 99, 1},
		{ten, "2|5:3|8", 23, 58, 4},
		{ten, "2|5:3|8", 24, 57, 2},
		{ten, "2|5:3|8", 29, 52, 0},
		{impl.Stack{2}, "1", 0, 1, 1},
		{impl.Stack{2}, "?", 1, 1, 1},
		{impl.Stack{65}, "0|63|64", 0, 63, 2},
		{impl.Stack{65}, "0|63|64", 1, 64, 2},
		{impl.Stack{65}, "0|63|64", 64, 64, 1},
		{impl.Stack{100}, "0|63|64|99", 64, 98, 1},
		{impl.Stack{100}, "0|63|64|99", 65, 99, 1},
		{great, "?:?:?:?:?:?", 0, last, impl.MaxCount},
		{great, "?:?:?:?:?:?", last, last, 1},
		{great, "?:?:?:?:?:?", 1, last - 1, last - 1},
		{great, "?:?:?:?:?:?", last, 0, 0},
		{great, "99:99:99:99:99:99", 0, last, 1},
		{great, "99:99:99:99:99:99", 0, last - 1, 0},
		{great, "0|99:?:?:?:?:64", 0, last, 200000000},
		{great, "0|99:?:?:?:?:64", 65, last - 36, 199999998},
	}
	for _, x := range tests {
		if count, code := impl.CountIn(x.s, mustPhoto(t, x.s, x.text), x.low, x.high); count != x.want || code != impl.OK {
			t.Errorf("CountIn(%v, %s, %d, %d) = %d, %d, want %d", x.s, x.text, x.low, x.high, count, code, x.want)
		}
	}
}

// TestPromise11Great counts values of a stack with MaxCount of them by CountWith,
// as one wheel alone is in doubt.
func TestPromise11Great(t *testing.T) {
	s := limitStack()
	ends := []int64{0, 1, 63, 64, 99, 100, 6399, 6400, 123456789012, 640063006400, impl.MaxCount / 2, impl.MaxCount - 2, impl.MaxCount - 1}
	for wheel := range s {
		p, _ := impl.BlankPhoto(s)
		p[wheel] = photo(only(7, 63, 64, 99))[0]
		for _, low := range ends {
			for _, high := range ends {
				want := int64(0)
				for _, digit := range []int64{7, 63, 64, 99} {
					count, _ := impl.CountWith(s, low, high, int64(wheel), digit)
					want += count
				}
				if count, code := impl.CountIn(s, p, low, high); count != want || code != impl.OK {
					t.Fatalf("CountIn with the wheel %d in doubt, from %d to %d: %d, %d, want %d", wheel, low, high, count, code, want)
				}
			}
			d, _ := impl.DigitsOf(s, low)
			nearest, nearestCode := int64(math.MaxInt64), int64(impl.ErrNotFound)
			for _, digit := range []int64{7, 63, 64, 99} {
				if way, _ := impl.NextWith(s, d, int64(wheel), digit); low+way < impl.MaxCount && low+way <= nearest {
					nearest, nearestCode = low+way, impl.OK
				}
			}
			if nearestCode != impl.OK {
				nearest = 0
			}
			if next, code := impl.NextIn(s, p, low); next != nearest || code != nearestCode {
				t.Fatalf("NextIn with the wheel %d in doubt, from %d on: %d, %d, want %d, %d", wheel, low, next, code, nearest, nearestCode)
			}
		}
	}
}

// TestPromise11Limit has photos with just MaxChoices values, and with more. (No photo
// has one more: 401 is no product of lesser numbers.)
func TestPromise11Limit(t *testing.T) {
	tests := []struct {
		s    impl.Stack
		p    impl.Photo
		want int64
	}{
		{impl.Stack{100, 4}, photo(run(0, 99), run(0, 3)), 400},
		{impl.Stack{100, 100}, photo(run(40, 59), run(55, 74)), 400},
		{impl.Stack{5, 5, 16}, photo(run(0, 4), run(0, 4), run(0, 15)), 400},
		{impl.Stack{2, 100, 100}, photo(only(1), run(60, 67), run(10, 59)), 400},
		{impl.Stack{100, 3}, photo(run(1, 99), run(0, 2)), 297},
		{impl.Stack{67, 6}, photo(run(0, 66), run(0, 5)), 402},
		{impl.Stack{81, 5}, photo(run(0, 80), run(0, 4)), 405},
		{impl.Stack{100, 5}, photo(run(0, 99), run(0, 4)), 500},
		{impl.Stack{100, 100}, photo(run(40, 59), run(55, 75)), 420},
		{limitStack(), photo(run(0, 99), run(0, 99), run(0, 99), run(0, 99), run(0, 99), run(0, 99)), impl.MaxCount},
	}
	for _, x := range tests {
		if choices, code := impl.ChoicesOf(x.s, x.p); choices != x.want || code != impl.OK {
			t.Errorf("ChoicesOf(%v, %v) = %d, %d, want %d", x.s, x.p, choices, code, x.want)
		}
		list, code := impl.ValuesIn(x.s, x.p)
		if x.want > 400 {
			if len(list) > 0 || code != impl.ErrLimit {
				t.Errorf("ValuesIn of %d values: %v, %d", x.want, list, code)
			}
		} else if !slices.Equal(list, valuesByTrial(x.s, x.p)) || code != impl.OK {
			t.Errorf("ValuesIn of %d values: %v, %d", x.want, list, code)
		}
	}
}

// TestPromise11Errors checks what is refused, and in which order.
func TestPromise11Errors(t *testing.T) {
	s := impl.Stack{10, 10}
	p := mustPhoto(t, s, "1|7:?")
	numbers := []int64{-1, 100, 101, impl.MaxCount, math.MinInt64, math.MaxInt64, 1 << 32, -1 << 32}
	for _, n := range numbers {
		next, code := impl.NextIn(s, p, n)
		mustCode(t, fmt.Sprint("NextIn of ", n), code, impl.ErrRange)
		for _, good := range []int64{0, 50, 99} {
			low, codeLow := impl.CountIn(s, p, n, good)
			mustCode(t, fmt.Sprint("CountIn from ", n), codeLow, impl.ErrRange) // even if it is greater
			high, codeHigh := impl.CountIn(s, p, good, n)
			mustCode(t, fmt.Sprint("CountIn to ", n), codeHigh, impl.ErrRange)
			if next != 0 || low != 0 || high != 0 {
				t.Errorf("NextIn and CountIn of %d are %d, %d and %d", n, next, low, high)
			}
		}
	}
	for _, n := range append(numbers, 0, 50, 99) {
		for i, bad := range badPhotos() {
			refusedPhoto(t, fmt.Sprint("the bad photo ", i), s, bad, n)
		}
		for i, bad := range badStacks() {
			refusedPhoto(t, fmt.Sprint("the bad stack ", i), bad, p, n)
			refusedPhoto(t, fmt.Sprint("the bad stack ", i), bad, impl.Photo{}, n)
		}
	}
	for i, bad := range []impl.Digits{{10}, {0, 10}, {0, 0, 1}, {0, 0, 0, 0, 0, 0, 0, 1}, {255, 255}} {
		ok, code := impl.Shows(s, p, bad)
		mustCode(t, fmt.Sprint("Shows of the bad digits ", i), code, impl.ErrInvalid)
		if ok {
			t.Errorf("the bad digits %d are shown", i)
		}
	}
}

// refusedPhoto checks that a photo is refused by all functions that find values in it.
func refusedPhoto(t *testing.T, name string, s impl.Stack, p impl.Photo, n int64) {
	t.Helper()
	choices, one := impl.ChoicesOf(s, p)
	shows, two := impl.Shows(s, p, impl.Digits{})
	least, three := impl.LeastIn(s, p)
	next, four := impl.NextIn(s, p, n)
	count, five := impl.CountIn(s, p, n, n)
	values, six := impl.ValuesIn(s, p)
	for _, code := range []int64{one, two, three, four, five, six} {
		mustCode(t, "what is in "+name, code, impl.ErrInvalid)
	}
	if choices != 0 || shows || least != 0 || next != 0 || count != 0 || len(values) > 0 {
		t.Errorf("in %s are %d, %v, %d, %d, %d, %v", name, choices, shows, least, next, count, values)
	}
}
