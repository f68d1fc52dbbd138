package tests

import (
	"math"
	"slices"
	"strings"
	"testing"

	"loop.example/g01278/impl"
)

// TestWheelsExample asserts the example of chapter 1.
func TestWheelsExample(t *testing.T) {
	s := mustRead(t, "24:60:60")
	if !impl.SameStack(s, impl.Stack{60, 60, 24}) {
		t.Errorf("24:60:60 has the bases %v", s)
	}
	if size, code := impl.SizeOf(s); size != 86400 || code != impl.OK {
		t.Errorf("size %d, code %d", size, code)
	}
	d, code := impl.DigitsOf(s, 3725)
	if text := impl.DigitsText(s, d); text != "01:02:05" || code != impl.OK {
		t.Errorf("3725 is %q, code %d", text, code)
	}
	last := mustDigits(t, s, "23:59:59")
	if up, moved, code := impl.StepUp(s, last); up != (impl.Digits{}) || moved != 3 || code != impl.OK {
		t.Errorf("StepUp: %v, %d, %d", up, moved, code)
	}
	if sum, rounds, code := impl.AddTo(s, last, 2); sum != (impl.Digits{1}) || rounds != 1 || code != impl.OK {
		t.Errorf("AddTo: %v, %d, %d", sum, rounds, code)
	}
	if there, back, code := impl.WayTo(s, impl.Digits{1}, impl.Digits{}); there != 86399 || back != -1 || code != impl.OK {
		t.Errorf("WayTo: %d, %d, %d", there, back, code)
	}
	for _, x := range []struct {
		size, wheels int64
		want         string
	}{{1000, 3, "10:10:10"}, {65, 2, "8:9"}} {
		if s, code := impl.LeastStack(x.size, x.wheels); impl.StackText(s) != x.want || code != impl.OK {
			t.Errorf("LeastStack(%d, %d) = %v, %d", x.size, x.wheels, s, code)
		}
	}
}

func TestCodeName(t *testing.T) {
	for i, want := range []string{"ok", "invalid", "range", "limit", "state", "syntax", "notfound", "budget", "proof"} {
		if got := impl.CodeName(int64(i)); got != want {
			t.Errorf("CodeName(%d) = %q, want %q", i, got, want)
		}
	}
	for _, code := range []int64{-1, 9, 10, 256, 1 << 32, math.MinInt64, math.MaxInt64} {
		if got := impl.CodeName(code); got != "" {
			t.Errorf("CodeName(%d) = %q", code, got)
		}
	}
}

func TestConstants(t *testing.T) {
	got := []int64{impl.OK, impl.ErrInvalid, impl.ErrRange, impl.ErrLimit, impl.ErrState, impl.ErrSyntax,
		impl.ErrNotFound, impl.ErrBudget, impl.ErrProof, impl.MaxWheels, impl.MaxBase, impl.MaxCount}
	if want := []int64{0, 1, 2, 3, 4, 5, 6, 7, 8, 8, 100, 1000000000000}; !slices.Equal(got, want) {
		t.Errorf("constants %v, want %v", got, want)
	}
	if len(impl.Digits{}) != 8 {
		t.Errorf("there are %d digits", len(impl.Digits{}))
	}
}

func TestValidStack(t *testing.T) {
	for _, s := range []impl.Stack{
		{2}, {100}, {2, 100}, {2, 2, 2, 2, 2, 2, 2, 2}, limitStack(),
		{99, 79, 77, 73, 43, 23, 23},           // 999999997227
		{100, 100, 100, 100, 100, 50, 2},       // MaxCount
		{10, 10, 10, 10, 100, 100, 100, 100},   // MaxCount, with MaxWheels wheels
		{31, 31, 31, 31, 31, 31, 31, 31},       // 31^8
		append(make(impl.Stack, 0, 50), 10, 9), // spare capacity does not count
	} {
		if !impl.ValidStack(s) {
			t.Errorf("ValidStack(%v) is false", s)
		}
	}
	for _, s := range badStacks() {
		if impl.ValidStack(s) {
			t.Errorf("ValidStack(%v) is true", s[:min(len(s), 9)])
		}
	}
	// 1000000006940 is the least product above MaxCount that bases have.
	if impl.ValidStack(impl.Stack{85, 71, 71, 62, 59, 58, 11}) {
		t.Error("a stack of 1000000006940 values is valid")
	}
}

func TestSameStack(t *testing.T) {
	tests := []struct {
		a, b impl.Stack
		want bool
	}{
		{impl.Stack{10, 9}, impl.Stack{10, 9}, true},
		{impl.Stack{0, 255}, impl.Stack{0, 255}, true},
		{nil, impl.Stack{}, true},
		{impl.Stack{10, 9}, impl.Stack{9, 10}, false},
		{impl.Stack{10, 9}, impl.Stack{10}, false},
		{impl.Stack{10}, impl.Stack{10, 9}, false},
		{nil, impl.Stack{0}, false},
		{impl.Stack{10, 10, 9}, impl.Stack{10, 10, 8}, false},
	}
	for _, x := range tests {
		if got := impl.SameStack(x.a, x.b); got != x.want {
			t.Errorf("SameStack(%v, %v) = %v", x.a, x.b, got)
		}
	}
}

func TestValidDigits(t *testing.T) {
	s := impl.Stack{10, 10, 2}
	for _, d := range []impl.Digits{{}, {9, 9, 1}, {9}, {0, 9}, {0, 0, 1}} {
		if !impl.ValidDigits(s, d) {
			t.Errorf("ValidDigits(%v, %v) is false", s, d)
		}
	}
	for _, d := range badDigits() {
		if impl.ValidDigits(s, d) {
			t.Errorf("ValidDigits(%v, %v) is true", s, d)
		}
	}
	for _, s := range badStacks() {
		if impl.ValidDigits(s, impl.Digits{}) {
			t.Errorf("ValidDigits of an invalid stack %v is true", s[:min(len(s), 9)])
		}
	}
}

func TestSizesAndPlaces(t *testing.T) {
	tests := []struct {
		s      impl.Stack
		size   int64
		places []int64
	}{
		{impl.Stack{2}, 2, []int64{1}},
		{impl.Stack{60, 60, 24}, 86400, []int64{1, 60, 3600}},
		{impl.Stack{2, 3, 5, 7}, 210, []int64{1, 2, 6, 30}},
		{limitStack(), impl.MaxCount, []int64{1, 100, 10000, 1000000, 100000000, 10000000000}},
		{impl.Stack{2, 2, 2, 2, 2, 2, 2, 2}, 256, []int64{1, 2, 4, 8, 16, 32, 64, 128}},
	}
	for _, x := range tests {
		if size, code := impl.SizeOf(x.s); size != x.size || code != impl.OK {
			t.Errorf("SizeOf(%v) = %d, %d", x.s, size, code)
		}
		for i, want := range x.places {
			if place, code := impl.PlaceOf(x.s, int64(i)); place != want || code != impl.OK {
				t.Errorf("PlaceOf(%v, %d) = %d, %d", x.s, i, place, code)
			}
		}
		for _, wheel := range []int64{-1, int64(len(x.s)), 8, 1 << 32, math.MinInt64, math.MaxInt64} {
			_, code := impl.PlaceOf(x.s, wheel)
			mustCode(t, "PlaceOf a wheel that is none", code, impl.ErrRange)
		}
	}
}

func TestComplement(t *testing.T) {
	for _, s := range append(smallStacks(), limitStack()) {
		size, _ := impl.SizeOf(s)
		for _, value := range []int64{0, 1, size / 2, size / 3, size - 1} {
			d, _ := impl.DigitsOf(s, value)
			rest, code := impl.Complement(s, d)
			if v, _ := impl.ValueOf(s, rest); v != size-1-value || code != impl.OK {
				t.Errorf("Complement(%v, %v) = %v, %d", s, d, rest, code)
			}
		}
	}
}

// TestWaysBetween walks from each value to each other one.
func TestWaysBetween(t *testing.T) {
	for _, s := range smallStacks() {
		list := allDigits(s)
		for i, from := range list {
			o := odometer{bases: s, shows: from}
			for there := range int64(len(list)) {
				back := there - int64(len(list))
				if there == 0 {
					back = 0
				}
				a, b, code := impl.WayTo(s, from, o.shows)
				if a != there || b != back || code != impl.OK {
					t.Fatalf("WayTo(%v, %v, %v) = %d, %d, %d, want %d, %d", s, from, o.shows, a, b, code, there, back)
				}
				want := int64(0)
				if int64(i)+there >= int64(len(list)) {
					want = 1
				} else if there > 0 {
					want = -1
				}
				if got, code := impl.CompareDigits(s, from, o.shows); got != want || code != impl.OK {
					t.Fatalf("CompareDigits(%v, %v, %v) = %d, %d, want %d", s, from, o.shows, got, code, want)
				}
				o.up()
			}
		}
	}
}

func TestLastOf(t *testing.T) {
	for _, s := range smallStacks() {
		for value, d := range allDigits(s) {
			part := int64(1)
			for wheels := 0; wheels <= len(s); wheels++ {
				if got, code := impl.LastOf(s, d, int64(wheels)); got != int64(value)%part || code != impl.OK {
					t.Fatalf("LastOf(%v, %v, %d) = %d, %d", s, d, wheels, got, code)
				}
				if wheels < len(s) {
					part *= int64(s[wheels])
				}
			}
		}
		for _, wheels := range []int64{-1, int64(len(s)) + 1, 1 << 32, math.MinInt64, math.MaxInt64} {
			_, code := impl.LastOf(s, impl.Digits{}, wheels)
			mustCode(t, "LastOf wheels that are none", code, impl.ErrRange)
		}
	}
}

// TestDigitsAhead looks for the next digit, and counts digits, one value after the other.
func TestDigitsAhead(t *testing.T) {
	for _, s := range smallStacks() {
		list := allDigits(s)
		for wheel, base := range s {
			for digit := range base {
				for value, d := range list {
					o, want := odometer{bases: s, shows: d}, int64(0)
					for o.shows[wheel] != digit {
						o.up()
						want++
					}
					if got, code := impl.NextWith(s, d, int64(wheel), int64(digit)); got != want || code != impl.OK {
						t.Fatalf("NextWith(%v, %v, %d, %d) = %d, %d, want %d", s, d, wheel, digit, got, code, want)
					}
					checkCounts(t, s, list, value, int64(wheel), digit)
				}
			}
		}
	}
}

func checkCounts(t *testing.T, s impl.Stack, list []impl.Digits, from int, wheel int64, digit uint8) {
	t.Helper()
	want := int64(0)
	for to := range list {
		if to >= from && list[to][wheel] == digit {
			want++
		}
		if got, code := impl.CountWith(s, int64(from), int64(to), wheel, int64(digit)); got != want || code != impl.OK {
			t.Fatalf("CountWith(%v, %d, %d, %d, %d) = %d, %d, want %d", s, from, to, wheel, digit, got, code, want)
		}
	}
}

func TestNoSuchDigit(t *testing.T) {
	s := impl.Stack{10, 7}
	for _, x := range [][2]int64{{-1, 0}, {2, 0}, {8, 0}, {0, -1}, {0, 10}, {1, 7}, {1, 256}, {1 << 32, 0}, {0, 1 << 32},
		{math.MinInt64, math.MinInt64}, {math.MaxInt64, math.MaxInt64}} {
		_, code := impl.NextWith(s, impl.Digits{}, x[0], x[1])
		mustCode(t, "NextWith no such digit", code, impl.ErrRange)
		_, code = impl.CountWith(s, 0, 69, x[0], x[1])
		mustCode(t, "CountWith no such digit", code, impl.ErrRange)
		_, code = impl.CountWith(s, 69, 0, x[0], x[1])
		mustCode(t, "CountWith no such digit from behind", code, impl.ErrRange)
	}
	for _, x := range [][2]int64{{-1, 5}, {0, 70}, {70, 0}, {5, -1}, {70, 70}, {-5, -1}, {math.MinInt64, math.MaxInt64}, {math.MaxInt64, math.MinInt64}} {
		_, code := impl.CountWith(s, x[0], x[1], 1, 6)
		mustCode(t, "CountWith no such value", code, impl.ErrRange)
	}
}

func TestGreatCounts(t *testing.T) {
	s := limitStack()
	for wheel := range int64(6) {
		for _, digit := range []int64{0, 50, 99} {
			if n, code := impl.CountWith(s, 0, impl.MaxCount-1, wheel, digit); n != impl.MaxCount/100 || code != impl.OK {
				t.Errorf("CountWith(all, %d, %d) = %d, %d", wheel, digit, n, code)
			}
		}
	}
	if n, code := impl.NextWith(s, impl.Digits{1}, 5, 0); n != 0 || code != impl.OK {
		t.Errorf("NextWith a digit that is there: %d, %d", n, code)
	}
	if n, code := impl.NextWith(s, impl.Digits{0, 0, 0, 0, 0, 1}, 5, 0); n != 990000000000 || code != impl.OK {
		t.Errorf("NextWith a digit over zero: %d, %d", n, code)
	}
	if n, code := impl.NextWith(s, impl.Digits{1, 0, 0, 0, 0, 98}, 5, 99); n != 9999999999 || code != impl.OK {
		t.Errorf("NextWith the last digit: %d, %d", n, code)
	}
}

// atLeast reports whether factors have a product of at least size.
func atLeast(size int64, factors ...int64) bool {
	product := int64(1)
	for _, f := range factors {
		product *= f // at most 101^8
	}
	return product >= size
}

// leastByTrying returns the least stack by the words of the document, or nil.
func leastByTrying(size int64, wheels int) impl.Stack {
	for base := int64(2); base <= impl.MaxBase; base++ {
		factors := slices.Repeat([]int64{base}, wheels)
		if !atLeast(size, factors...) {
			continue
		}
		for last := int64(2); ; last++ {
			factors[wheels-1] = last
			if !atLeast(size, factors...) {
				continue
			}
			if atLeast(impl.MaxCount+1, factors...) {
				return nil
			}
			s := impl.Stack{}
			for _, f := range factors {
				s = append(s, uint8(f))
			}
			return s
		}
	}
	return nil
}

func TestLeastStack(t *testing.T) {
	var sizes []int64
	for size := int64(1); size <= 300; size++ {
		sizes = append(sizes, size)
	}
	for power := int64(1000); power <= impl.MaxCount; power *= 10 {
		sizes = append(sizes, power-1, power)
		if power < impl.MaxCount {
			sizes = append(sizes, power+1, power*3)
		}
	}
	for _, size := range sizes {
		for wheels := 1; wheels <= impl.MaxWheels; wheels++ {
			want := leastByTrying(size, wheels)
			s, code := impl.LeastStack(size, int64(wheels))
			if want == nil && (s != nil || code != impl.ErrLimit) || want != nil && (!impl.SameStack(s, want) || code != impl.OK) {
				t.Errorf("LeastStack(%d, %d) = %v, %d, want %v", size, wheels, s, code, want)
			}
		}
	}
}

func TestLeastStackByHand(t *testing.T) {
	tests := []struct {
		size, wheels int64
		text         string
		code         int64
	}{
		{1, 1, "2", impl.OK},
		{1, 8, "2:2:2:2:2:2:2:2", impl.OK},
		{256, 8, "2:2:2:2:2:2:2:2", impl.OK},
		{257, 8, "2:3:3:3:3:3:3:3", impl.OK},
		{4, 2, "2:2", impl.OK},
		{5, 2, "2:3", impl.OK},
		{7, 2, "3:3", impl.OK},
		{100, 1, "100", impl.OK},
		{101, 1, "", impl.ErrLimit},
		{10000, 2, "100:100", impl.OK},
		{10001, 2, "", impl.ErrLimit},
		{impl.MaxCount, 6, "100:100:100:100:100:100", impl.OK},
		{impl.MaxCount - 1, 6, "100:100:100:100:100:100", impl.OK},
		{impl.MaxCount, 5, "", impl.ErrLimit},
		{impl.MaxCount, 7, "", impl.ErrLimit}, // 52^6 * 51 is more than MaxCount
		{impl.MaxCount, 8, "", impl.ErrLimit}, // 32^7 * 30 is more than MaxCount
		{impl.MaxCount + 1, 6, "", impl.ErrRange},
		{impl.MaxCount + 1, 1, "", impl.ErrRange},
		{0, 3, "", impl.ErrRange},
		{-1, 3, "", impl.ErrRange},
		{1000, 0, "", impl.ErrRange},
		{1000, -1, "", impl.ErrRange},
		{1000, 9, "", impl.ErrRange},
		{math.MaxInt64, 8, "", impl.ErrRange},
		{math.MinInt64, 8, "", impl.ErrRange},
		{1000, math.MaxInt64, "", impl.ErrRange},
		{1000, math.MinInt64, "", impl.ErrRange},
		{impl.MaxCount, 9, "", impl.ErrRange}, // ahead of ErrLimit
	}
	for _, x := range tests {
		s, code := impl.LeastStack(x.size, x.wheels)
		if impl.StackText(s) != x.text || code != x.code {
			t.Errorf("LeastStack(%d, %d) = %v, %d, want %q, %d", x.size, x.wheels, s, code, x.text, x.code)
		}
	}
}

func TestStackTexts(t *testing.T) {
	list := append(smallStacks(), limitStack(), impl.Stack{100}, impl.Stack{9, 10, 11, 99, 100},
		impl.Stack{2, 2, 2, 2, 2, 2, 2, 2}, impl.Stack{60, 60, 24})
	for _, s := range list {
		text := impl.StackText(s)
		if back, code := impl.ReadStack(text); !impl.SameStack(back, s) || code != impl.OK {
			t.Errorf("%v is written %q, and read %v, %d", s, text, back, code)
		}
	}
	if text := impl.StackText(impl.Stack{2, 10, 100}); text != "100:10:2" {
		t.Errorf("the text of 2, 10, 100 is %q", text)
	}
	for _, s := range badStacks() {
		if text := impl.StackText(s); text != "" {
			t.Errorf("an invalid stack has the text %q", text[:min(len(text), 20)])
		}
	}
	for _, text := range []string{
		"", ":", "0", "1", "101", "255", "256", "257", "258", "1000", "02", "010", "00:10", "10:", ":10", "10::10",
		"10:10:", " 10", "10 ", "10: 10", "10\n", "+10", "-10", "1e1", "0x10", "1_0", "a", "10;10", "10.10", "٣",
		"10\x00", "\xff", "2:2:2:2:2:2:2:2:2", "2:100:100:100:100:100:100", "11:58:59:62:71:71:85",
		"18446744073709551618", "99999999999999999999", "10:0", "10:1", "10:101", "0:10", "1:10",
	} {
		if s, code := impl.ReadStack(text); s != nil || code != impl.ErrSyntax {
			t.Errorf("ReadStack(%q) = %v, %d", text, s, code)
		}
	}
}

func TestDigitsTexts(t *testing.T) {
	for _, s := range append(smallStacks(), impl.Stack{12, 9, 2}, impl.Stack{2, 100}) {
		seen := map[string]bool{}
		for _, d := range allDigits(s) {
			text := impl.DigitsText(s, d)
			if back, code := impl.ReadDigits(s, text); back != d || code != impl.OK {
				t.Errorf("%v of %v is written %q, and read %v, %d", d, s, text, back, code)
			}
			seen[text] = true
		}
		if size, _ := impl.SizeOf(s); int64(len(seen)) != size {
			t.Errorf("%v has %d texts", s, len(seen))
		}
	}
	tests := []struct {
		s    impl.Stack
		d    impl.Digits
		text string
	}{
		{impl.Stack{10}, impl.Digits{7}, "7"},
		{impl.Stack{11}, impl.Digits{7}, "07"},
		{impl.Stack{11}, impl.Digits{10}, "10"},
		{impl.Stack{100}, impl.Digits{}, "00"},
		{impl.Stack{100}, impl.Digits{99}, "99"},
		{impl.Stack{2, 11, 10}, impl.Digits{1, 2, 3}, "3:02:1"},
		{impl.Stack{11, 2, 100}, impl.Digits{0, 1, 5}, "05:1:00"},
		{impl.Stack{2, 2, 2, 2, 2, 2, 2, 2}, impl.Digits{1, 0, 0, 0, 0, 0, 1, 0}, "0:1:0:0:0:0:0:1"},
	}
	for _, x := range tests {
		if text := impl.DigitsText(x.s, x.d); text != x.text {
			t.Errorf("DigitsText(%v, %v) = %q, want %q", x.s, x.d, text, x.text)
		}
	}
}

func TestDigitsTextsThatAreNone(t *testing.T) {
	s := impl.Stack{60, 60, 24}
	for _, text := range []string{
		"", ":", "::", "0", "01:02", "01:02:05:00", "00:01:02:05", "1:02:05", "01:2:05", "01:02:5", "001:02:05",
		"01:02:005", "24:00:00", "00:60:00", "00:00:60", "00:00:99", "00:00:256", "00:00:-1", "00:00:+1", "+1:00:00",
		" 01:02:05", "01:02:05 ", "01:02:05\n", "01:02:05:", ":01:02:05", "01::05", "01:02:", "01.02.05", "0a:02:05",
		"0x:02:05", "01:02:0_", "01:02:0\xff", "010205", "01:02:٠٥",
	} {
		if d, code := impl.ReadDigits(s, text); d != (impl.Digits{}) || code != impl.ErrSyntax {
			t.Errorf("ReadDigits(%q) = %v, %d", text, d, code)
		}
	}
	for _, d := range badDigits() {
		if text := impl.DigitsText(impl.Stack{10, 10, 2}, d); text != "" {
			t.Errorf("the invalid digits %v have the text %q", d, text)
		}
	}
	full := impl.Stack{2, 2, 2, 2, 2, 2, 2, 2}
	for _, text := range []string{"0:0:0:0:0:0:0:0:0", "0:0:0:0:0:0:0", strings.Repeat("0:", 99)} {
		_, code := impl.ReadDigits(full, text)
		mustCode(t, "ReadDigits of "+text, code, impl.ErrSyntax)
	}
	for _, s := range badStacks() {
		for _, text := range []string{"", "0", "?"} {
			_, code := impl.ReadDigits(s, text)
			mustCode(t, "ReadDigits of an invalid stack", code, impl.ErrInvalid)
		}
		if text := impl.DigitsText(s, impl.Digits{}); text != "" {
			t.Errorf("the digits of an invalid stack have the text %q", text)
		}
	}
}
