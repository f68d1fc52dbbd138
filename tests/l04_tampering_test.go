package tests

import (
	"fmt"
	"math"
	"slices"
	"strings"
	"testing"

	"loop.example/g01278/impl"
)

// TestTamperingExample asserts the example of chapter 4.
func TestTamperingExample(t *testing.T) {
	s, f := mustRead(t, "10:10"), flow(1, 5)
	if a, b, code := impl.CountsBetween(s, reading(0, 20), reading(3, 26), f); a != 6 || b != 6 || code != impl.OK {
		t.Errorf("CountsBetween 20 and 26: %d, %d, %d", a, b, code)
	}
	if a, b, code := impl.CountsBetween(s, reading(0, 20), reading(3, 16), f); a != 0 || b != 0 || code != impl.ErrNotFound {
		t.Errorf("CountsBetween 20 and 16: %d, %d, %d", a, b, code)
	}
	if back, code := impl.SetBackBy(s, reading(0, 20), reading(3, 16), f); back != 7 || code != impl.OK {
		t.Errorf("SetBackBy: %d, %d", back, code)
	}
	log := daily(10, 12, 90, 16)
	if list, code := impl.SuspectsOf(s, log, f); !slices.Equal(list, []int64{2, 3}) || code != impl.OK {
		t.Errorf("SuspectsOf: %v, %d", list, code)
	}
	if x := mustStory(t, s, log, f); !slices.Equal(x.Kept, []int64{0, 1, 3}) || len(x.Breaks) != 0 || x.Cost != 1 {
		t.Errorf("BestStory: %s", storyText(x))
	}
	if tight, code := impl.TightestFlow(s, daily(10, 13, 15), 100); tight != flow(2, 3) || code != impl.OK {
		t.Errorf("TightestFlow: %v, %d", tight, code)
	}
}

func TestTamperingConstants(t *testing.T) {
	got := []int64{impl.MaxLog, impl.MaxLogDay, impl.MaxFlow, impl.CsMisread, impl.CsBreak}
	if want := []int64{40, 100000, 1000000, 1, 2}; !slices.Equal(got, want) {
		t.Errorf("constants %v, want %v", got, want)
	}
}

func TestValidLog(t *testing.T) {
	ten := impl.Stack{10, 10}
	tests := []struct {
		s    impl.Stack
		log  []impl.Reading
		want bool
	}{
		{ten, nil, true},
		{ten, []impl.Reading{}, true},
		{ten, daily(0), true},
		{ten, daily(99), true},
		{ten, daily(100), false},
		{ten, daily(-1), false},
		{ten, daily(5, 5, 5), true}, // values may stay, or be less
		{ten, daily(9, 5, 0), true},
		{ten, []impl.Reading{reading(0, 5), reading(impl.MaxLogDay, 5)}, true},
		{ten, []impl.Reading{reading(impl.MaxLogDay, 5)}, true},
		{ten, []impl.Reading{reading(impl.MaxLogDay+1, 5)}, false},
		{ten, []impl.Reading{reading(-1, 5)}, false},
		{ten, []impl.Reading{reading(3, 5), reading(3, 6)}, false},
		{ten, []impl.Reading{reading(3, 5), reading(2, 6)}, false},
		{ten, []impl.Reading{reading(3, 5), reading(4, 6)}, true},
		{ten, []impl.Reading{reading(1, 5), reading(3, 6), reading(2, 7), reading(4, 8)}, false},
		{ten, daily(5, 6, 100), false},
		{ten, daily(100, 6, 7), false},
		{ten, daily(5, -1, 7), false},
		{ten, daily(make([]int64, 39)...), true},
		{ten, daily(make([]int64, impl.MaxLog)...), true},
		{ten, daily(make([]int64, impl.MaxLog+1)...), false},
		{limitStack(), daily(impl.MaxCount-1, 0), true},
		{limitStack(), daily(impl.MaxCount, 0), false},
		{impl.Stack{2}, daily(0, 1, 0), true},
		{impl.Stack{2}, daily(0, 2, 0), false},
	}
	for _, x := range tests {
		if got := impl.ValidLog(x.s, x.log); got != x.want {
			t.Errorf("ValidLog(%v, %v) = %v", x.s, x.log, got)
		}
	}
	for i, log := range badLogs() {
		if impl.ValidLog(ten, log) {
			t.Errorf("the bad log %d is valid", i)
		}
	}
	for i, s := range badStacks() {
		for _, log := range [][]impl.Reading{nil, daily(0), daily(0, 1)} {
			if impl.ValidLog(s, log) {
				t.Errorf("%v is valid for the bad stack %d", log, i)
			}
		}
	}
}

func TestSameLog(t *testing.T) {
	tests := []struct {
		a, b []impl.Reading
		want bool
	}{
		{nil, nil, true},
		{nil, []impl.Reading{}, true},
		{nil, daily(0), false},
		{daily(1, 2), daily(1, 2), true},
		{daily(1, 2), daily(2, 1), false},
		{daily(1, 2), daily(1), false},
		{daily(1, 2), daily(1, 2, 3), false},
		{daily(1, 2), []impl.Reading{reading(0, 1), reading(2, 2)}, false}, // another day
		{daily(1, 2), []impl.Reading{reading(0, 1), reading(1, 3)}, false}, // another value
		{[]impl.Reading{reading(5, -7), reading(5, 1<<40)}, []impl.Reading{reading(5, -7), reading(5, 1<<40)}, true}, // they need not be valid
		{[]impl.Reading{reading(5, -7), reading(5, 1<<40)}, []impl.Reading{reading(5, -7), reading(5, 1<<41)}, false},
		{daily(make([]int64, 100)...), daily(make([]int64, 100)...), true},
		{daily(make([]int64, 100)...), daily(make([]int64, 101)...), false},
	}
	for _, x := range tests {
		if got, back := impl.SameLog(x.a, x.b), impl.SameLog(x.b, x.a); got != x.want || back != x.want {
			t.Errorf("SameLog(%v, %v) = %v, and %v", x.a, x.b, got, back)
		}
	}
}

func TestValidFlow(t *testing.T) {
	for low := int64(-3); low <= 5; low++ {
		for high := int64(-3); high <= 5; high++ {
			if got := impl.ValidFlow(flow(low, high)); got != (low >= 0 && low <= high) {
				t.Errorf("ValidFlow(%d to %d) = %v", low, high, got)
			}
		}
	}
	for _, f := range []impl.Flow{flow(0, 0), flow(5, 5), flow(0, impl.MaxFlow), flow(impl.MaxFlow-1, impl.MaxFlow), flow(impl.MaxFlow, impl.MaxFlow)} {
		if !impl.ValidFlow(f) {
			t.Errorf("ValidFlow(%v) is false", f)
		}
	}
	for _, f := range badFlows() {
		if impl.ValidFlow(f) {
			t.Errorf("ValidFlow(%v) is true", f)
		}
	}
}

func TestGoesBack(t *testing.T) {
	tests := []struct {
		values []int64
		want   []int64
	}{
		{nil, nil},
		{[]int64{5}, nil},
		{[]int64{5, 6}, nil},
		{[]int64{5, 5}, nil}, // just as much is not less
		{[]int64{5, 4}, []int64{1}},
		{[]int64{10, 12, 90, 16}, []int64{3}},
		{[]int64{99, 0, 99, 0}, []int64{1, 3}},
		{[]int64{9, 8, 7, 7, 6}, []int64{1, 2, 4}},
		{[]int64{50, 20, 30, 40}, []int64{1}}, // less than the first one, but not than the one before
		{[]int64{98, 1, 4}, []int64{1}},       // over 99, which may well be
	}
	for _, x := range tests {
		if list, code := impl.GoesBack(impl.Stack{10, 10}, daily(x.values...)); !slices.Equal(list, x.want) || code != impl.OK {
			t.Errorf("GoesBack(%v) = %v, %d, want %v", x.values, list, code, x.want)
		}
	}
	for seed := range uint64(50) {
		s := impl.Stack{4, 5}
		log := madeLog(s, int(seed)%41, seed)
		var want []int64
		for i := 1; i < len(log); i++ {
			from, _ := impl.DigitsOf(s, log[i-1].Value)
			to, _ := impl.DigitsOf(s, log[i].Value)
			if c, _ := impl.CompareDigits(s, to, from); c < 0 {
				want = append(want, int64(i))
			}
		}
		if list, code := impl.GoesBack(s, log); !slices.Equal(list, want) || code != impl.OK {
			t.Errorf("GoesBack(%v) = %v, %d, want %v", log, list, code, want)
		}
	}
}

func TestSuspectsOf(t *testing.T) {
	tests := []struct {
		log  []impl.Reading
		f    impl.Flow
		want []int64
	}{
		{nil, flow(1, 5), nil},
		{daily(10), flow(1, 5), nil},
		{daily(10, 12, 90, 16), flow(1, 5), []int64{2, 3}},
		{daily(10, 11, 16, 16, 22), flow(1, 5), []int64{3, 4}}, // just Low, just High, one less, one more
		{daily(10, 10, 11), flow(0, 0), []int64{2}},
		{daily(98, 99, 0, 5), flow(1, 5), nil},
		{[]impl.Reading{reading(0, 10), reading(2, 20), reading(4, 22), reading(6, 23), reading(8, 34)}, flow(1, 5), []int64{3, 4}},
		{[]impl.Reading{reading(0, 10), reading(100, 9)}, flow(0, 0), []int64{1}},
		{[]impl.Reading{reading(0, 10), reading(100, 9)}, flow(1, 1), []int64{1}},
		{[]impl.Reading{reading(0, 10), reading(100, 10)}, flow(1, 1), nil},
		{[]impl.Reading{reading(0, 10), reading(99, 9)}, flow(1, 1), nil},
		{[]impl.Reading{reading(0, 10), reading(impl.MaxLogDay, 9)}, flow(0, impl.MaxFlow), nil},
	}
	for _, x := range tests {
		if list, code := impl.SuspectsOf(impl.Stack{10, 10}, x.log, x.f); !slices.Equal(list, x.want) || code != impl.OK {
			t.Errorf("SuspectsOf(%v, %v) = %v, %d, want %v", x.log, x.f, list, code, x.want)
		}
	}
}

func TestSameStory(t *testing.T) {
	one := impl.Story{Kept: []int64{0, 1, 3}, Breaks: []int64{3}, Cost: 3}
	tests := []struct {
		a, b impl.Story
		want bool
	}{
		{impl.Story{}, impl.Story{}, true},
		{impl.Story{}, impl.Story{Kept: []int64{}, Breaks: []int64{}}, true},
		{one, impl.Story{Kept: []int64{0, 1, 3}, Breaks: []int64{3}, Cost: 3}, true},
		{one, impl.Story{Kept: []int64{0, 1, 3}, Breaks: []int64{3}, Cost: 2}, false},
		{one, impl.Story{Kept: []int64{0, 1, 3}, Breaks: []int64{1}, Cost: 3}, false},
		{one, impl.Story{Kept: []int64{0, 1, 3}, Breaks: []int64{1, 3}, Cost: 3}, false},
		{one, impl.Story{Kept: []int64{0, 1, 3}, Cost: 3}, false},
		{one, impl.Story{Kept: []int64{0, 1}, Breaks: []int64{3}, Cost: 3}, false},
		{one, impl.Story{Kept: []int64{0, 2, 3}, Breaks: []int64{3}, Cost: 3}, false},
		{one, impl.Story{Kept: []int64{3}, Breaks: []int64{0, 1, 3}, Cost: 3}, false},
		{one, impl.Story{}, false},
		{impl.Story{Kept: []int64{9, -9}, Cost: -1}, impl.Story{Kept: []int64{9, -9}, Cost: -1}, true}, // they need not be as told
		{impl.Story{Kept: []int64{9, -9}, Cost: -1}, impl.Story{Breaks: []int64{9, -9}, Cost: -1}, false},
	}
	for _, x := range tests {
		if got, back := impl.SameStory(x.a, x.b), impl.SameStory(x.b, x.a); got != x.want || back != x.want {
			t.Errorf("SameStory(%s, %s) = %v, and %v", storyText(x.a), storyText(x.b), got, back)
		}
	}
}

func TestStuckSince(t *testing.T) {
	ten, clock := impl.Stack{10, 10, 10}, impl.Stack{60, 60, 24}
	tests := []struct {
		s      impl.Stack
		values []int64
		wheel  int64
		want   int64
		code   int64
	}{
		{ten, []int64{12, 15, 25, 35}, 0, 1, impl.OK},
		{ten, []int64{15, 25, 35}, 0, 0, impl.OK}, // from the first reading on
		{ten, []int64{15, 25}, 0, 0, impl.OK},
		{ten, []int64{12, 15, 25}, 0, 1, impl.OK}, // the last but one
		{ten, []int64{12, 15}, 0, 0, impl.ErrNotFound},
		{ten, []int64{12, 12}, 0, 0, impl.ErrNotFound}, // no higher wheel moves
		{ten, []int64{25, 25, 25}, 0, 0, impl.ErrNotFound},
		{ten, []int64{14, 15, 15, 15}, 0, 0, impl.ErrNotFound},
		{ten, []int64{35, 14, 15, 15}, 0, 0, impl.ErrNotFound}, // it moves before, but not from there on
		{ten, []int64{15, 25, 15}, 0, 0, impl.OK},              // there and back is not the same in all
		{ten, []int64{15, 15, 15, 25}, 0, 0, impl.OK},
		{ten, []int64{15, 25, 25, 25}, 0, 0, impl.OK},
		{ten, []int64{15, 115}, 0, 0, impl.OK}, // the last wheel alone
		{ten, []int64{15, 25, 36}, 0, 0, impl.ErrNotFound},
		{ten, []int64{15, 25, 36, 46}, 0, 2, impl.OK},
		{ten, []int64{5, 15, 26, 35, 45, 55}, 0, 3, impl.OK},       // the digit has been there before
		{ten, []int64{150, 155, 151, 152}, 1, 0, impl.ErrNotFound}, // lower wheels do not count
		{ten, []int64{150, 155, 250, 251}, 1, 0, impl.OK},
		{ten, []int64{140, 155, 250, 251}, 1, 1, impl.OK},
		{ten, []int64{140, 155, 150, 251}, 1, 1, impl.OK},
		{ten, []int64{140, 155, 150, 151}, 1, 0, impl.ErrNotFound},
		{ten, []int64{100, 200, 300}, 1, 0, impl.OK},
		{ten, []int64{100, 200, 300}, 0, 0, impl.OK},
		{ten, []int64{100, 200, 300}, 2, 0, impl.ErrNotFound}, // there is no higher wheel
		{ten, []int64{100, 150, 175}, 2, 0, impl.ErrNotFound},
		{ten, []int64{5}, 0, 0, impl.ErrNotFound}, // none behind it
		{ten, nil, 0, 0, impl.ErrNotFound},
		{ten, nil, 2, 0, impl.ErrNotFound},
		{ten, nil, 3, 0, impl.ErrRange},
		{ten, nil, -1, 0, impl.ErrRange},
		{ten, []int64{12, 15, 25, 35}, 3, 0, impl.ErrRange},
		{ten, []int64{12, 15, 25, 35}, -1, 0, impl.ErrRange},
		{ten, []int64{12, 15, 25, 35}, 1 << 32, 0, impl.ErrRange},
		{ten, []int64{12, 15, 25, 35}, math.MaxInt64, 0, impl.ErrRange},
		{ten, []int64{12, 15, 25, 35}, math.MinInt64, 0, impl.ErrRange},
		{clock, []int64{5, 65, 3665, 3605}, 0, 0, impl.OK},
		{clock, []int64{5, 65, 3665, 7265}, 1, 1, impl.OK},
		{impl.Stack{2}, []int64{0, 0, 0}, 0, 0, impl.ErrNotFound},
		{impl.Stack{2}, []int64{0, 0, 0}, 1, 0, impl.ErrRange},
	}
	for _, x := range tests {
		if since, code := impl.StuckSince(x.s, daily(x.values...), x.wheel); since != x.want || code != x.code {
			t.Errorf("StuckSince(%v, %v, %d) = %d, %d, want %d, %d", x.s, x.values, x.wheel, since, code, x.want, x.code)
		}
	}
	for i, bad := range badStacks() {
		_, code := impl.StuckSince(bad, nil, -1)
		mustCode(t, fmt.Sprint("StuckSince of the bad stack ", i), code, impl.ErrInvalid)
	}
	for i, bad := range badLogs() {
		for _, wheel := range []int64{0, 1, 2, -1} {
			_, code := impl.StuckSince(impl.Stack{10, 10}, bad, wheel)
			mustCode(t, fmt.Sprint("StuckSince of the bad log ", i), code, impl.ErrInvalid)
		}
	}
}

// stuckByWords returns the first reading from which on a wheel stays, though a
// higher one does not, as the document says it.
func stuckByWords(s impl.Stack, log []impl.Reading, wheel int) (int64, bool) {
	for i := 0; i+1 < len(log); i++ {
		first, _ := impl.DigitsOf(s, log[i].Value)
		stays, moves := true, false
		for _, r := range log[i:] {
			d, _ := impl.DigitsOf(s, r.Value)
			stays = stays && d[wheel] == first[wheel]
			for higher := wheel + 1; higher < len(s); higher++ {
				moves = moves || d[higher] != first[higher]
			}
		}
		if stays && moves {
			return int64(i), true
		}
	}
	return 0, false
}

func TestStuckSinceByWords(t *testing.T) {
	found := 0
	for _, s := range []impl.Stack{{2}, {2, 2}, {2, 2, 2, 2}, {3, 2, 2}, {2, 5}, {2, 3, 4}} {
		for seed := range uint64(200) {
			log := madeLog(s, int(seed%6), seed)
			for wheel := range s {
				want, ok := stuckByWords(s, log, wheel)
				code := int64(impl.ErrNotFound)
				if ok {
					code = impl.OK
					found++
				}
				if since, c := impl.StuckSince(s, log, int64(wheel)); since != want || c != code {
					t.Fatalf("StuckSince(%v, %v, %d) = %d, %d, want %d, %d", s, log, wheel, since, c, want, code)
				}
			}
		}
	}
	if found < 100 {
		t.Errorf("%d wheels are stuck", found)
	}
}

func TestLogTexts(t *testing.T) {
	tests := []struct {
		s    impl.Stack
		log  []impl.Reading
		text string
	}{
		{impl.Stack{10, 10}, nil, ""},
		{impl.Stack{10, 10}, daily(5), "0 0:5\n"},
		{impl.Stack{10, 10}, daily(10, 12, 90, 16), "0 1:0\n1 1:2\n2 9:0\n3 1:6\n"},
		{impl.Stack{60, 60, 24}, []impl.Reading{reading(7, 3725), reading(100000, 86399)}, "7 01:02:05\n100000 23:59:59\n"},
		{impl.Stack{2}, []impl.Reading{reading(10, 1), reading(99999, 0)}, "10 1\n99999 0\n"},
		{impl.Stack{11, 2}, []impl.Reading{reading(10, 21)}, "10 1:10\n"},
		{limitStack(), []impl.Reading{reading(0, impl.MaxCount-1)}, "0 99:99:99:99:99:99\n"},
	}
	for _, x := range tests {
		if text := impl.LogText(x.s, x.log); text != x.text {
			t.Errorf("LogText(%v, %v) = %q, want %q", x.s, x.log, text, x.text)
		}
		if log, code := impl.ReadLog(x.s, x.text); !slices.Equal(log, x.log) || code != impl.OK {
			t.Errorf("ReadLog(%v, %q) = %v, %d, want %v", x.s, x.text, log, code, x.log)
		}
	}
	for _, s := range append(smallStacks(), impl.Stack{60, 60, 24}, limitStack()) {
		for n := range impl.MaxLog + 1 {
			log := madeLog(s, n, uint64(n))
			if again, code := impl.ReadLog(s, impl.LogText(s, log)); !slices.Equal(again, log) || code != impl.OK {
				t.Errorf("%v is written %q, and read %v, %d", log, impl.LogText(s, log), again, code)
			}
		}
	}
	for i, log := range badLogs() {
		if text := impl.LogText(impl.Stack{10, 10}, log); text != "" {
			t.Errorf("the bad log %d has the text %q", i, short(text))
		}
	}
	for i, s := range badStacks() {
		if text := impl.LogText(s, daily(0, 1)); text != "" {
			t.Errorf("a log of the bad stack %d has the text %q", i, short(text))
		}
	}
}

func TestLogTextsThatAreNone(t *testing.T) {
	s := impl.Stack{10, 10}
	lines := func(n int) string {
		var text strings.Builder
		for i := range n {
			text.WriteString(fmt.Sprint(i, " 0:0\n"))
		}
		return text.String()
	}
	if log, code := impl.ReadLog(s, lines(impl.MaxLog)); len(log) != impl.MaxLog || code != impl.OK {
		t.Errorf("%d lines are read %v, %d", impl.MaxLog, log, code)
	}
	texts := []string{
		"\n", " ", "0", "0 0:5", "0 0:5\n\n", "\n0 0:5\n", "0 0:5\n1 0:6", "0 0:5 \n", " 0 0:5\n", "0  0:5\n", "0\t0:5\n", "0 0:5\r\n", "0 0:5\n \n",
		"0\n", "0 \n", " 0:5\n", "0:5\n", "0 5\n", "0 :5\n", "0 0:\n", "0 0:10\n", "0 1:10\n", "0 00:5\n", "0 0:05\n", "0 0:0:5\n", "0 0:5 1\n", "0 0:5,1 0:6\n",
		"00 0:5\n", "01 0:5\n", "+1 0:5\n", "-1 0:5\n", "-0 0:5\n", "1.0 0:5\n", "0x1 0:5\n", "1_0 0:5\n", "100001 0:5\n", "4294967296 0:5\n", "99999999999999999999 0:5\n",
		"x 0:5\n", "0 x\n", "0 0:x\n", "0 -1:5\n", "0 +1:5\n", "0 ?:5\n", "٣ 0:5\n", "0 0:٣\n", "0 0:5\x00\n", "0 0:5\n\x00", "\xff", "0 \xff\n",
		"1 0:5\n0 0:6\n", "1 0:5\n1 0:6\n", "1 0:5\n1 0:5\n", "0 0:5\n2 0:6\n1 0:7\n", "0 0:5\nx\n1 0:6\n",
		lines(impl.MaxLog + 1), lines(impl.MaxLog) + "x", lines(impl.MaxLog) + "\n", lines(impl.MaxLog) + "40 0:0", lines(100),
	}
	for _, text := range texts {
		if log, code := impl.ReadLog(s, text); len(log) != 0 || code != impl.ErrSyntax {
			t.Errorf("ReadLog(%q) = %v, %d", short(text), log, code)
		}
	}
	for i, bad := range badStacks() {
		for _, text := range append(texts, "", "0 0:5\n") {
			log, code := impl.ReadLog(bad, text)
			mustCode(t, fmt.Sprintf("ReadLog(%q) of the bad stack %d", short(text), i), code, impl.ErrInvalid)
			if len(log) > 0 {
				t.Errorf("ReadLog(%q) of the bad stack %d is %v", short(text), i, log)
			}
		}
	}
	for _, part := range []string{"1", "0", "\n", " ", "0 0:5\n", ":", "0 ", "\x00"} {
		long := strings.Repeat(part, 1000000/len(part))
		for _, text := range []string{long, "0 0:5\n" + long, "0 " + long + "\n", long + " 0:5\n", lines(39) + long} {
			if log, code := impl.ReadLog(s, text); len(log) != 0 || code != impl.ErrSyntax {
				t.Errorf("ReadLog of many %q gives %v, %d", part, log, code)
			}
		}
	}
}

// TestLogInvalid checks GoesBack, which has no error but this one.
func TestLogInvalid(t *testing.T) {
	for i, bad := range badLogs() {
		list, code := impl.GoesBack(impl.Stack{10, 10}, bad)
		mustCode(t, fmt.Sprint("GoesBack of the bad log ", i), code, impl.ErrInvalid)
		if len(list) > 0 {
			t.Errorf("GoesBack of the bad log %d is %v", i, list)
		}
	}
	for i, bad := range badStacks() {
		_, code := impl.GoesBack(bad, nil)
		mustCode(t, fmt.Sprint("GoesBack of the bad stack ", i), code, impl.ErrInvalid)
	}
}
