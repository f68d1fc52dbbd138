package tests

import (
	"fmt"
	"math"
	"slices"
	"strings"
	"testing"

	"loop.example/g01278/impl"
)

func TestReadingsExample(t *testing.T) {
	s := impl.Stack{10, 10}
	p := mustPhoto(t, s, "1|7:?")
	if choices, code := impl.ChoicesOf(s, p); choices != 20 || code != impl.OK {
		t.Errorf("ChoicesOf is %d, %d", choices, code)
	}
	if least, code := impl.LeastIn(s, p); least != 10 || code != impl.OK {
		t.Errorf("LeastIn is %d, %d", least, code)
	}
	if next, code := impl.NextIn(s, p, 20); next != 70 || code != impl.OK {
		t.Errorf("NextIn is %d, %d", next, code)
	}
	list := mustFilm(t, s, "?:9", "1|2:0", "2:5")
	if ways, code := impl.WaysThrough(s, list, 0, 8); ways != 1 || code != impl.OK {
		t.Errorf("WaysThrough is %d, %d", ways, code)
	}
	if ok, code := impl.CheckWay(s, list, []int64{19, 20, 25}, 0, 8); !ok || code != impl.OK {
		t.Errorf("CheckWay is %v, %d", ok, code)
	}
	if sure, code := impl.SurePhotos(s, list, 0, 8); !slices.Equal(sure, mustFilm(t, s, "1:9", "2:0", "2:5")) || code != impl.OK {
		t.Errorf("SurePhotos are %v, %d", sure, code)
	}
	if way, sum, code := impl.LikeliestWay(s, list, 0, 8, 3); !slices.Equal(way, []int64{19, 20, 25}) || sum != 4 || code != impl.OK {
		t.Errorf("LikeliestWay is %v, %d, %d", way, sum, code)
	}
}

func TestReadingsConstants(t *testing.T) {
	list := []int64{impl.MaxPhotos, impl.MaxChoices, impl.MaxWays}
	if want := []int64{20, 400, 1000000000000000}; !slices.Equal(list, want) {
		t.Errorf("the constants are %v, want %v", list, want)
	}
}

// TestValidPhoto gives each wheel each single bit, alone and beside all others.
func TestValidPhoto(t *testing.T) {
	for _, s := range append(wideStacks(), smallStacks()...) {
		var wheels [][]int
		for _, base := range s {
			wheels = append(wheels, run(0, int(base)-1))
		}
		if !impl.ValidPhoto(s, photo(wheels...)) {
			t.Errorf("all digits of %v are not valid", s)
		}
		for wheel := range impl.MaxWheels {
			for digit := range 128 {
				want := wheel < len(s) && digit < int(s[wheel])
				alone := photo(wheels...)
				alone[wheel] = impl.Marks{}
				if impl.ValidPhoto(s, alone) == (wheel < len(s)) {
					t.Errorf("%v with no digit on the wheel %d is valid: %v", s, wheel, wheel < len(s))
				}
				alone[wheel][digit/64] = worthOf(digit)
				if got := impl.ValidPhoto(s, alone); got != want {
					t.Errorf("%v with just the digit %d on the wheel %d is valid: %v", s, digit, wheel, got)
				}
				beside := photo(wheels...)
				beside[wheel][digit/64] |= worthOf(digit)
				if got := impl.ValidPhoto(s, beside); got != want {
					t.Errorf("%v with the digit %d on the wheel %d beside all others is valid: %v", s, digit, wheel, got)
				}
			}
		}
	}
	for i, p := range badPhotos() {
		if impl.ValidPhoto(impl.Stack{10, 10}, p) {
			t.Errorf("the bad photo %d is valid", i)
		}
	}
	one := only(1)
	for i, s := range badStacks() {
		for _, p := range []impl.Photo{{}, photo(only(0)), photo(one, one), photo(one, one, one, one, one, one, one, one)} {
			if impl.ValidPhoto(s, p) {
				t.Errorf("%v is valid for the bad stack %d", p, i)
			}
		}
	}
}

// TestPhotosOfAll checks that just the value of some digits is in their photo, and
// that all are in the blank one.
func TestPhotosOfAll(t *testing.T) {
	for _, s := range append(wideStacks(), smallStacks()...) {
		blank, code := impl.BlankPhoto(s)
		var wheels [][]int
		for _, base := range s {
			wheels = append(wheels, run(0, int(base)-1))
		}
		if blank != photo(wheels...) || code != impl.OK {
			t.Fatalf("BlankPhoto(%v) = %v, %d", s, blank, code)
		}
		for _, d := range allDigits(s) {
			var own [][]int
			for wheel := range s {
				own = append(own, only(int(d[wheel])))
			}
			if p, code := impl.PhotoOf(s, d); p != photo(own...) || code != impl.OK {
				t.Fatalf("PhotoOf(%v, %v) = %v, %d", s, d, p, code)
			}
		}
	}
	great := limitStack()
	if p, code := impl.PhotoOf(great, impl.Digits{0, 63, 64, 99, 65, 1}); p != photo(only(0), only(63), only(64), only(99), only(65), only(1)) || code != impl.OK {
		t.Errorf("PhotoOf is %v, %d", p, code)
	}
}

func TestPhotosInvalid(t *testing.T) {
	ten := impl.Stack{2, 10, 10}
	for i, d := range badDigits() {
		p, code := impl.PhotoOf(impl.Stack{10, 10, 2}, d)
		mustCode(t, fmt.Sprint("PhotoOf of the bad digits ", i), code, impl.ErrInvalid)
		if p != (impl.Photo{}) {
			t.Errorf("PhotoOf of the bad digits %d is %v", i, p)
		}
	}
	_, code := impl.PhotoOf(ten, impl.Digits{2})
	mustCode(t, "PhotoOf of a digit that is just the base", code, impl.ErrInvalid)
	for i, s := range badStacks() {
		p, code := impl.PhotoOf(s, impl.Digits{})
		mustCode(t, fmt.Sprint("PhotoOf of the bad stack ", i), code, impl.ErrInvalid)
		q, codeBlank := impl.BlankPhoto(s)
		mustCode(t, fmt.Sprint("BlankPhoto of the bad stack ", i), codeBlank, impl.ErrInvalid)
		if p != (impl.Photo{}) || q != (impl.Photo{}) {
			t.Errorf("photos of the bad stack %d are %v and %v", i, p, q)
		}
	}
}

// TestHasDigit asks for each bit of photos, valid or not, and for what has none.
func TestHasDigit(t *testing.T) {
	full := badPhotos()[1]
	photos := append(badPhotos(), photo(only(0, 63, 64, 99), nil, nil, nil, nil, nil, nil, only(1, 62, 65, 127)))
	for wheel := range impl.MaxWheels {
		for digit := range 128 {
			var single impl.Photo
			single[wheel][digit/64] = worthOf(digit)
			for _, p := range append(photos, single) {
				if got := impl.HasDigit(p, int64(wheel), int64(digit)); got != marked(p, wheel, digit) {
					t.Fatalf("HasDigit(%v, %d, %d) = %v", p, wheel, digit, got)
				}
			}
		}
	}
	for _, x := range [][2]int64{{impl.MaxWheels - 1, 127}, {impl.MaxWheels - 1, 0}, {0, 127}, {0, 0}} {
		if !impl.HasDigit(full, x[0], x[1]) {
			t.Errorf("the full photo does not have the digit %d on the wheel %d", x[1], x[0])
		}
	}
	numbers := []int64{-1, -64, -128, 1 << 32, math.MinInt64, math.MaxInt64}
	for _, n := range numbers {
		for _, good := range []int64{0, 1, 7} {
			if impl.HasDigit(full, n, good) || impl.HasDigit(full, good, n) || impl.HasDigit(full, n, n) {
				t.Errorf("HasDigit of %d is true", n)
			}
		}
	}
	for digit := int64(128); digit < 300; digit++ {
		if impl.HasDigit(full, 0, digit) || impl.HasDigit(full, impl.MaxWheels, digit-128) || impl.HasDigit(full, digit, 0) {
			t.Errorf("HasDigit of the digit %d, or of as many wheels, is true", digit)
		}
	}
}

// TestWithDigit gives each digit to photos, and takes it away.
func TestWithDigit(t *testing.T) {
	for _, s := range append(wideStacks(), impl.Stack{10, 10}, impl.Stack{2, 3, 4}) {
		for seed := range uint64(12) {
			p := madePhoto(s, 1+seed%4, seed)
			for wheel, base := range s {
				for digit := range int(base) {
					checkWithDigit(t, s, p, wheel, digit)
				}
			}
		}
	}
}

func checkWithDigit(t *testing.T, s impl.Stack, p impl.Photo, wheel, digit int) {
	t.Helper()
	given, code := impl.WithDigit(s, p, int64(wheel), int64(digit), true)
	if code != impl.OK || !impl.ValidPhoto(s, given) {
		t.Fatalf("WithDigit(%v, %v, %d, %d) gives %v, %d", s, p, wheel, digit, given, code)
	}
	rest := given
	rest[wheel][digit/64] -= worthOf(digit) // it must be there
	want := p
	if marked(p, wheel, digit) {
		want[wheel][digit/64] -= worthOf(digit)
	}
	if rest != want {
		t.Fatalf("WithDigit(%v, %v, %d, %d) gives %v", s, p, wheel, digit, given)
	}
	wantCode := int64(impl.OK)
	if rest[wheel] == (impl.Marks{}) { // it was the last one of its wheel
		want, wantCode = impl.Photo{}, impl.ErrState
	}
	if taken, code := impl.WithDigit(s, p, int64(wheel), int64(digit), false); taken != want || code != wantCode {
		t.Fatalf("WithDigit(%v, %v, %d, %d) takes away to %v, %d, want %v, %d", s, p, wheel, digit, taken, code, want, wantCode)
	}
}

func TestWithDigitByHand(t *testing.T) {
	one, wide := impl.Stack{10, 10}, impl.Stack{2, 64, 65, 100}
	p := photo(only(5), only(2, 3))
	q := photo(only(0), only(0, 63), only(0, 63, 64), only(0, 63, 64, 99))
	last := photo(only(1), only(63), only(64), only(99))
	eight, zeros := impl.Stack{2, 2, 2, 2, 2, 2, 2, 2}, photo(only(0), only(0), only(0), only(0), only(0), only(0), only(0), only(0))
	tests := []struct {
		s            impl.Stack
		p            impl.Photo
		wheel, digit int64
		may          bool
		want         impl.Photo
		code         int64
	}{
		{one, p, 0, 6, true, photo(only(5, 6), only(2, 3)), impl.OK},
		{one, p, 0, 5, true, p, impl.OK}, // it is there already
		{one, p, 0, 6, false, p, impl.OK},
		{one, p, 1, 2, false, photo(only(5), only(3)), impl.OK},
		{one, p, 0, 5, false, impl.Photo{}, impl.ErrState},
		{one, p, 0, 9, true, photo(only(5, 9), only(2, 3)), impl.OK},
		{one, p, 0, 10, true, impl.Photo{}, impl.ErrRange},
		{one, p, 0, 10, false, impl.Photo{}, impl.ErrRange},
		{one, p, 2, 0, true, impl.Photo{}, impl.ErrRange},
		{one, p, 2, 0, false, impl.Photo{}, impl.ErrRange},
		{one, p, -1, 0, true, impl.Photo{}, impl.ErrRange},
		{one, p, 0, -1, true, impl.Photo{}, impl.ErrRange},
		{one, p, 0, -1, false, impl.Photo{}, impl.ErrRange},
		{one, p, impl.MaxWheels - 1, 0, true, impl.Photo{}, impl.ErrRange},
		{one, p, impl.MaxWheels, 0, true, impl.Photo{}, impl.ErrRange},
		{one, p, 0, 63, true, impl.Photo{}, impl.ErrRange},
		{one, p, 0, 64, true, impl.Photo{}, impl.ErrRange},
		{one, p, 0, 127, true, impl.Photo{}, impl.ErrRange},
		{one, p, 0, 128, true, impl.Photo{}, impl.ErrRange},
		{one, p, 0, 128, false, impl.Photo{}, impl.ErrRange},
		{one, p, 0, 256, true, impl.Photo{}, impl.ErrRange},
		{one, p, math.MaxInt64, 5, true, impl.Photo{}, impl.ErrRange},
		{one, p, math.MinInt64, math.MinInt64, false, impl.Photo{}, impl.ErrRange},
		{one, p, 1 << 32, 5, true, impl.Photo{}, impl.ErrRange},
		{one, p, 0, 1 << 32, true, impl.Photo{}, impl.ErrRange},
		{wide, q, 0, 1, true, photo(only(0, 1), only(0, 63), only(0, 63, 64), only(0, 63, 64, 99)), impl.OK},
		{wide, q, 0, 2, true, impl.Photo{}, impl.ErrRange},
		{wide, q, 1, 63, false, photo(only(0), only(0), only(0, 63, 64), only(0, 63, 64, 99)), impl.OK},
		{wide, q, 1, 64, true, impl.Photo{}, impl.ErrRange},
		{wide, q, 2, 64, false, photo(only(0), only(0, 63), only(0, 63), only(0, 63, 64, 99)), impl.OK},
		{wide, q, 2, 0, false, photo(only(0), only(0, 63), only(63, 64), only(0, 63, 64, 99)), impl.OK},
		{wide, q, 2, 65, true, impl.Photo{}, impl.ErrRange},
		{wide, q, 3, 99, false, photo(only(0), only(0, 63), only(0, 63, 64), only(0, 63, 64)), impl.OK},
		{wide, q, 3, 65, true, photo(only(0), only(0, 63), only(0, 63, 64), only(0, 63, 64, 65, 99)), impl.OK},
		{wide, q, 3, 100, true, impl.Photo{}, impl.ErrRange},
		{wide, last, 0, 1, false, impl.Photo{}, impl.ErrState},
		{wide, last, 1, 63, false, impl.Photo{}, impl.ErrState},
		{wide, last, 2, 64, false, impl.Photo{}, impl.ErrState},
		{wide, last, 3, 99, false, impl.Photo{}, impl.ErrState},
		{wide, last, 3, 35, false, last, impl.OK}, // 99 less 64
		{eight, zeros, impl.MaxWheels - 1, 1, true, photo(only(0), only(0), only(0), only(0), only(0), only(0), only(0), only(0, 1)), impl.OK},
		{eight, zeros, impl.MaxWheels - 1, 0, false, impl.Photo{}, impl.ErrState},
		{eight, zeros, impl.MaxWheels, 0, true, impl.Photo{}, impl.ErrRange},
		{eight, zeros, impl.MaxWheels, 0, false, impl.Photo{}, impl.ErrRange},
		{limitStack(), photo(run(0, 99), run(0, 99), run(0, 99), run(0, 99), run(0, 99), run(0, 99)), 6, 0, false, impl.Photo{}, impl.ErrRange},
	}
	for _, x := range tests {
		if got, code := impl.WithDigit(x.s, x.p, x.wheel, x.digit, x.may); got != x.want || code != x.code {
			t.Errorf("WithDigit(%v, %v, %d, %d, %v) = %v, %d, want %v, %d", x.s, x.p, x.wheel, x.digit, x.may, got, code, x.want, x.code)
		}
	}
}

// TestMeetAndJoin checks each digit of what two photos have together.
func TestMeetAndJoin(t *testing.T) {
	apart, together := 0, 0
	for _, s := range append(wideStacks(), impl.Stack{10, 10}, impl.Stack{2, 3, 4}, limitStack()) {
		for seed := range uint64(60) {
			p, q := madePhoto(s, 1+seed%4, seed), madePhoto(s, 1+seed%5, seed*77+5)
			var both, either [][]int
			shared := true
			for wheel, base := range s {
				var b, e []int
				for digit := range int(base) {
					if marked(p, wheel, digit) && marked(q, wheel, digit) {
						b = append(b, digit)
					}
					if marked(p, wheel, digit) || marked(q, wheel, digit) {
						e = append(e, digit)
					}
				}
				both, either, shared = append(both, b), append(either, e), shared && len(b) > 0
			}
			want, code := photo(both...), int64(impl.OK)
			if shared {
				together++
			} else {
				want, code = impl.Photo{}, impl.ErrProof
				apart++
			}
			if got, c := impl.MeetPhotos(s, p, q); got != want || c != code {
				t.Fatalf("MeetPhotos(%v, %v, %v) = %v, %d, want %v, %d", s, p, q, got, c, want, code)
			}
			if got, c := impl.JoinPhotos(s, p, q); got != photo(either...) || c != impl.OK {
				t.Fatalf("JoinPhotos(%v, %v, %v) = %v, %d", s, p, q, got, c)
			}
		}
	}
	if apart < 100 || together < 100 {
		t.Errorf("%d pairs without a digit in common, and %d with some", apart, together)
	}
}

func TestMeetAndJoinByHand(t *testing.T) {
	ten, wide := impl.Stack{10, 10}, impl.Stack{100, 65}
	tests := []struct {
		s          impl.Stack
		p, q       string
		meet, join string // meet is empty if there is none
	}{
		{ten, "1|2:3|4", "2|3:4|5", "2:4", "1|2|3:3|4|5"},
		{ten, "1|2:3|4", "1|2:5", "", "1|2:3|4|5"}, // no digit of the wheel 0 in common
		{ten, "1|2:3|4", "5:3|4", "", "1|2|5:3|4"},
		{ten, "1:2", "3:4", "", "1|3:2|4"},
		{ten, "1:2", "1:2", "1:2", "1:2"},
		{ten, "?:?", "1:2", "1:2", "?:?"},
		{ten, "?:?", "?:?", "?:?", "?:?"},
		{ten, "0|1|2|3|4:0", "5|6|7|8|9:0", "", "?:0"},
		{wide, "0|63|64:0|63|64|99", "63|64:64|65|99", "63|64:64|99", "0|63|64:0|63|64|65|99"},
		{wide, "64:99", "0:35", "", "0|64:35|99"}, // the same bits of the other numbers
		{wide, "64:99", "64:35", "", "64:35|99"},
		{wide, "0:63", "0:99", "", "0:63|99"},
	}
	for _, x := range tests {
		p, q := mustPhoto(t, x.s, x.p), mustPhoto(t, x.s, x.q)
		for _, pair := range [][2]impl.Photo{{p, q}, {q, p}} {
			meet, code := impl.MeetPhotos(x.s, pair[0], pair[1])
			if x.meet == "" {
				mustCode(t, "MeetPhotos of "+x.p+" and "+x.q, code, impl.ErrProof)
				if meet != (impl.Photo{}) {
					t.Errorf("MeetPhotos of %s and %s is %v", x.p, x.q, meet)
				}
			} else if impl.PhotoText(x.s, meet) != x.meet || code != impl.OK {
				t.Errorf("MeetPhotos of %s and %s is %s, %d", x.p, x.q, impl.PhotoText(x.s, meet), code)
			}
			if join, code := impl.JoinPhotos(x.s, pair[0], pair[1]); impl.PhotoText(x.s, join) != x.join || code != impl.OK {
				t.Errorf("JoinPhotos of %s and %s is %s, %d", x.p, x.q, impl.PhotoText(x.s, join), code)
			}
		}
	}
}

func TestPhotoTexts(t *testing.T) {
	ten := impl.Stack{10, 10}
	var many []string
	for digit := range 99 {
		many = append(many, fmt.Sprint(digit))
	}
	tests := []struct {
		s    impl.Stack
		p    impl.Photo
		text string
	}{
		{ten, photo(run(0, 9), only(1, 7)), "1|7:?"},
		{ten, photo(run(0, 9), run(0, 9)), "?:?"},
		{ten, photo(only(5), only(2)), "2:5"},
		{ten, photo(run(0, 8), run(1, 9)), "1|2|3|4|5|6|7|8|9:0|1|2|3|4|5|6|7|8"},
		{ten, photo(only(0), only(0)), "0:0"},
		{impl.Stack{2}, photo(only(0)), "0"},
		{impl.Stack{2}, photo(only(1)), "1"},
		{impl.Stack{2}, photo(only(0, 1)), "?"},
		{impl.Stack{2, 3, 2}, photo(only(1), only(0, 2), only(0, 1)), "?:0|2:1"},
		{impl.Stack{64}, photo(run(0, 63)), "?"},
		{impl.Stack{64}, photo(run(0, 62)), strings.Join(many[:63], "|")},
		{impl.Stack{64}, photo(only(0, 63)), "0|63"},
		{impl.Stack{65}, photo(run(0, 64)), "?"},
		{impl.Stack{65}, photo(run(0, 63)), strings.Join(many[:64], "|")}, // all but the greatest one
		{impl.Stack{65}, photo(only(64)), "64"},
		{impl.Stack{65}, photo(only(0, 63, 64)), "0|63|64"},
		{impl.Stack{100}, photo(run(0, 99)), "?"},
		{impl.Stack{100}, photo(run(0, 98)), strings.Join(many, "|")},
		{impl.Stack{100}, photo(run(1, 99)), strings.Join(append(many[1:], "99"), "|")},
		{impl.Stack{100, 65, 64, 2}, photo(only(9, 10, 64, 99), only(64), only(0, 63), only(0, 1)), "?:0|63:64:9|10|64|99"},
		{impl.Stack{2, 2, 2, 2, 2, 2, 2, 2}, photo(only(0), only(1), only(0, 1), only(0), only(1), only(0, 1), only(0), only(1)), "1:0:?:1:0:?:1:0"},
		{limitStack(), photo(only(99), only(0), run(0, 99), only(9), only(10), only(5, 64)), "5|64:10:9:?:0:99"},
	}
	for _, x := range tests {
		if text := impl.PhotoText(x.s, x.p); text != x.text {
			t.Errorf("PhotoText(%v, %v) = %q, want %q", x.s, x.p, text, x.text)
		}
		if p, code := impl.ReadPhoto(x.s, x.text); p != x.p || code != impl.OK {
			t.Errorf("ReadPhoto(%v, %q) = %v, %d, want %v", x.s, x.text, p, code, x.p)
		}
	}
	for _, s := range append(append(smallStacks(), wideStacks()...), limitStack()) {
		for seed := range uint64(40) {
			p := madePhoto(s, 1+seed%6, seed)
			if again, code := impl.ReadPhoto(s, impl.PhotoText(s, p)); again != p || code != impl.OK {
				t.Errorf("%v is written %q, and read %v, %d", p, impl.PhotoText(s, p), again, code)
			}
		}
	}
	for i, p := range badPhotos() {
		if text := impl.PhotoText(ten, p); text != "" {
			t.Errorf("the bad photo %d has the text %q", i, text)
		}
	}
	for i, s := range badStacks() {
		if text := impl.PhotoText(s, photo(only(0), only(0))); text != "" {
			t.Errorf("a photo of the bad stack %d has the text %q", i, text)
		}
	}
}

// TestPhotoTextsAll reads all short texts of the bytes that the texts of a small
// stack have, and some others: just as many are read as there are photos.
func TestPhotoTextsAll(t *testing.T) {
	s := impl.Stack{3, 2}
	photos := map[string]impl.Photo{}
	for _, p := range allPhotos(s) {
		photos[impl.PhotoText(s, p)] = p
	}
	if len(photos) != 21 {
		t.Errorf("%d texts of the 21 photos of %v", len(photos), s)
	}
	read := 0
	texts := []string{""}
	for range 6 {
		var longer []string
		for _, text := range texts {
			want, known := photos[text]
			p, code := impl.ReadPhoto(s, text)
			if p != want || known != (code == impl.OK) || !known && code != impl.ErrSyntax {
				t.Fatalf("ReadPhoto(%v, %q) = %v, %d", s, text, p, code)
			}
			if known {
				read++
			}
			for _, letter := range "0123|:?" {
				longer = append(longer, text+string(letter))
			}
		}
		texts = longer
	}
	if read != len(photos) {
		t.Errorf("%d texts are read, but there are %d photos", read, len(photos))
	}
}

func TestPhotoTextsThatAreNone(t *testing.T) {
	s := impl.Stack{10, 10}
	texts := []string{
		"", ":", "?", "1", "1:", ":1", "?:", ":?", "1:2:3", "?:?:?", ":1:2", "1:2:", "1::2",
		"1:|", "|:1", "1|:2", "|1:2", "1||2:3", "1:2|", "1:|2", "|", "1|2",
		"2|1:3", "3:2|1", "1|3|2:3", "9|0:1", // out of order
		"1|1:3", "3:1|1", "1|2|2:3", // twice
		"01:3", "1|02:3", "00:3", "3:01", "3:1|02", // zeros ahead
		"+1:3", "-1:3", "-0:3", "1|+2:3", "3:+1", "3:-1", // signs ahead
		"?|1:3", "1|?:3", "??:3", "? :3", " ?:3", "3:?|1", "3:??", "*:3", "1?:3", "?1:3",
		"10:3", "1|10:3", "3:10", "3:1|10", "63:3", "64:3", "65:3", "127:3", "128:3", "255:3", "256:3", "3:256", "257:3", "4294967297:3", "18446744073709551617:3",
		"0|1|2|3|4|5|6|7|8|9:3", "3:0|1|2|3|4|5|6|7|8|9", // all digits told one by one
		"0|1|2|3|4|5|6|7|8|9|10:3", "0|1|2|3|4|5|6|7|8|9|9:3",
		"1,2:3", "1 |2:3", "1| 2:3", "1 2:3", "1:2 ", " 1:2", "1 :2", "1: 2", "1:3\n", "\n1:3", "1.0:3", "0x1:3", "1_0:3", "1e0:3", "x:3", "1/2:3", "1;3", "1:3\x00", "\xff:1", "1:\xff", "٣:3", "？:3", "1：3",
	}
	for _, text := range texts {
		if p, code := impl.ReadPhoto(s, text); p != (impl.Photo{}) || code != impl.ErrSyntax {
			t.Errorf("ReadPhoto(%q) = %v, %d", text, p, code)
		}
	}
	for _, x := range []struct {
		s    impl.Stack
		text string
	}{{impl.Stack{2}, ""}, {impl.Stack{2}, "|"}, {impl.Stack{2}, "x"}, {impl.Stack{100}, ""}, {impl.Stack{2}, "0:0"}, {impl.Stack{2}, "0|1"}, {impl.Stack{2}, "2"}, {impl.Stack{2}, "1|0"}, {impl.Stack{64}, "64"}, {impl.Stack{64}, "0|64"}, {impl.Stack{65}, "65"}, {impl.Stack{65}, "64|63"},
		{impl.Stack{100}, "100"}, {impl.Stack{100}, "99|100"}, {impl.Stack{100}, "127"}, {impl.Stack{100}, "09"}, {impl.Stack{100}, "064"}} {
		if p, code := impl.ReadPhoto(x.s, x.text); p != (impl.Photo{}) || code != impl.ErrSyntax {
			t.Errorf("ReadPhoto(%v, %q) = %v, %d", x.s, x.text, p, code)
		}
	}
	for _, base := range []int{2, 3, 64, 65, 100} { // all digits told one by one
		var words []string
		for digit := range base {
			words = append(words, fmt.Sprint(digit))
		}
		text := strings.Join(words, "|")
		if p, code := impl.ReadPhoto(impl.Stack{uint8(base)}, text); p != (impl.Photo{}) || code != impl.ErrSyntax {
			t.Errorf("ReadPhoto of all %d digits is %v, %d", base, p, code)
		}
	}
	for i, bad := range badStacks() {
		for _, text := range append(texts, "?", "?:?", "0", "0:0") {
			p, code := impl.ReadPhoto(bad, text)
			mustCode(t, fmt.Sprintf("ReadPhoto(%q) of the bad stack %d", text, i), code, impl.ErrInvalid)
			if p != (impl.Photo{}) {
				t.Errorf("ReadPhoto(%q) of the bad stack %d is %v", text, i, p)
			}
		}
	}
}

// TestPhotoTextsLong checks that texts of many bytes are read to no end.
func TestPhotoTextsLong(t *testing.T) {
	for _, part := range []string{"1", "0", "?", "|", ":", "1|", "0|1|", "?:", "1:", "\x00"} {
		long := strings.Repeat(part, 1000000/len(part))
		for _, text := range []string{long, "1:" + long, long + ":1", "1|" + long + ":1", "?:1|" + long} {
			if p, code := impl.ReadPhoto(impl.Stack{10, 10}, text); p != (impl.Photo{}) || code != impl.ErrSyntax {
				t.Errorf("ReadPhoto of many %q gives %v, %d", part, p, code)
			}
		}
	}
}
