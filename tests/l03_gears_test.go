package tests

import (
	"math"
	"math/big"
	"slices"
	"strings"
	"testing"

	"loop.example/g01278/impl"
)

// TestGearsExample asserts the example of chapter 3.
func TestGearsExample(t *testing.T) {
	r := ratio(355, 113)
	if terms, code := impl.TermsOf(r); !slices.Equal(terms, []int64{3, 7, 16}) || code != impl.OK {
		t.Errorf("TermsOf 355/113: %v, %d", terms, code)
	}
	if list, code := impl.ConvergentsOf(r); !slices.Equal(list, []impl.Ratio{{P: 3, Q: 1}, {P: 22, Q: 7}, {P: 355, Q: 113}}) || code != impl.OK {
		t.Errorf("ConvergentsOf 355/113: %v, %d", list, code)
	}
	if near, code := impl.NearestRatio(r, 30); near != ratio(22, 7) || code != impl.OK {
		t.Errorf("NearestRatio of 355/113: %v, %d", near, code)
	}
	two := mustTrain(t, "10/20 15/45")
	if r := mustRatio(t, two); r != ratio(1, 6) {
		t.Errorf("the ratio of 10/20 15/45 is %v", r)
	}
	if teeth, code := impl.TeethOf(two); teeth != 90 || code != impl.OK {
		t.Errorf("TeethOf 10/20 15/45: %d, %d", teeth, code)
	}
	one, code := impl.PairFor(ratio(1, 6))
	if teeth, _ := impl.TeethOf(one); impl.TrainText(one) != "8/48" || teeth != 56 || code != impl.OK {
		t.Errorf("PairFor 1/6: %v, %d teeth, code %d", one, teeth, code)
	}
	if list, code := impl.TrainFor(ratio(1, 100)); impl.TrainText(list) != "8/80 8/80" || code != impl.OK {
		t.Errorf("TrainFor 1/100: %v, %d", list, code)
	}
	if list, code := impl.PairFor(ratio(1, 100)); list != nil || code != impl.ErrNotFound {
		t.Errorf("PairFor 1/100: %v, %d", list, code)
	}
	near, code := impl.NearestPair(r, 60)
	if impl.TrainText(near) != "44/14" || code != impl.OK {
		t.Errorf("NearestPair of 355/113: %v, %d", near, code)
	}
	if count, code := impl.FirstOff(near, r, 1000); count != 7 || code != impl.OK {
		t.Errorf("FirstOff: %d, %d", count, code)
	}
	if off, code := impl.OffAfter(near, r, 7); off != 1 || code != impl.OK {
		t.Errorf("OffAfter 7: %d, %d", off, code)
	}
}

func TestGearsConstants(t *testing.T) {
	got := []int64{impl.MinTeeth, impl.MaxTeeth, impl.MaxPairs, impl.MaxTerm, impl.MaxSearch}
	if want := []int64{8, 120, 4, 1000000000, 1000}; !slices.Equal(got, want) {
		t.Errorf("constants %v, want %v", got, want)
	}
}

func TestValidRatio(t *testing.T) {
	for p := int64(-5); p <= 60; p++ {
		for q := int64(-5); q <= 60; q++ {
			want := p >= 1 && q >= 1
			for n := int64(2); n <= p && n <= q; n++ {
				want = want && (p%n != 0 || q%n != 0)
			}
			if got := impl.ValidRatio(ratio(p, q)); got != want {
				t.Errorf("ValidRatio(%d / %d) = %v", p, q, got)
			}
		}
	}
	for _, r := range greatRatios() {
		if !impl.ValidRatio(r) {
			t.Errorf("ValidRatio(%v) is false", r)
		}
	}
	for _, r := range badRatios() {
		if impl.ValidRatio(r) {
			t.Errorf("ValidRatio(%v) is true", r)
		}
	}
}

func TestMakeRatio(t *testing.T) {
	for p := int64(1); p <= 80; p++ {
		for q := int64(1); q <= 80; q++ {
			checkMakeRatio(t, p, q, lowest(p, q), impl.OK)
			checkMakeRatio(t, p*11111111, q*11111111, lowest(p, q), impl.OK)
		}
	}
	none, most := impl.Ratio{}, int64(impl.MaxTerm)
	tests := []struct {
		p, q int64
		want impl.Ratio
		code int64
	}{
		{most, 1, ratio(most, 1), impl.OK},
		{1, most, ratio(1, most), impl.OK},
		{most, most, ratio(1, 1), impl.OK},
		{most + 1, 1, none, impl.ErrLimit},
		{1, most + 1, none, impl.ErrLimit},
		{most + 1, most, none, impl.ErrLimit},
		{most, most + 1, none, impl.ErrLimit},
		{most + 1, most + 1, ratio(1, 1), impl.OK},
		{most + 1, 7, ratio(142857143, 1), impl.OK}, // 7 divides both
		{77, most + 1, ratio(1, 12987013), impl.OK},
		{most + 2, 2, ratio(500000001, 1), impl.OK},
		{most + 2, 3, ratio(333333334, 1), impl.OK},
		{most + 3, 2, none, impl.ErrLimit},
		{2 * most, 2, ratio(most, 1), impl.OK},
		{2 * most, 1, none, impl.ErrLimit},
		{2*most + 2, 2, none, impl.ErrLimit},
		{6, 6*most + 6, none, impl.ErrLimit},
		{6, 6 * most, ratio(1, most), impl.OK},
		{math.MaxInt64, math.MaxInt64, ratio(1, 1), impl.OK},
		{math.MaxInt64, 1, none, impl.ErrLimit},
		{1, math.MaxInt64, none, impl.ErrLimit},
		{math.MaxInt64, math.MaxInt64 - 1, none, impl.ErrLimit},
		{math.MaxInt64, 7, none, impl.ErrLimit},
		{math.MaxInt64, math.MaxInt64 / 7, ratio(7, 1), impl.OK}, // 7 divides 2^63 - 1
		{1 << 62, 1 << 61, ratio(2, 1), impl.OK},
		{1 << 62, 1 << 32, none, impl.ErrLimit},
		{1 << 62, 1 << 33, ratio(1<<29, 1), impl.OK},
		{0, 1, none, impl.ErrRange},
		{1, 0, none, impl.ErrRange},
		{0, 0, none, impl.ErrRange},
		{-1, 1, none, impl.ErrRange},
		{1, -1, none, impl.ErrRange},
		{-6, -4, none, impl.ErrRange},
		{0, most + 1, none, impl.ErrRange}, // a range ahead of a limit
		{most + 1, 0, none, impl.ErrRange},
		{math.MinInt64, math.MinInt64, none, impl.ErrRange},
		{math.MinInt64, math.MaxInt64, none, impl.ErrRange},
		{math.MaxInt64, -1, none, impl.ErrRange},
	}
	for _, x := range tests {
		checkMakeRatio(t, x.p, x.q, x.want, x.code)
	}
}

func checkMakeRatio(t *testing.T, p, q int64, want impl.Ratio, code int64) {
	t.Helper()
	if r, c := impl.MakeRatio(p, q); r != want || c != code {
		t.Errorf("MakeRatio(%d, %d) = %v, %d, want %v, %d", p, q, r, c, want, code)
	}
}

func TestCompareRatios(t *testing.T) {
	list := append(smallRatios(12), greatRatios()...)
	for _, r := range list {
		for _, s := range list {
			if c, code := impl.CompareRatios(r, s); c != int64(rat(r).Cmp(rat(s))) || code != impl.OK {
				t.Errorf("CompareRatios(%v, %v) = %d, %d", r, s, c, code)
			}
		}
	}
}

func TestTimesRatio(t *testing.T) {
	list := append(smallRatios(12), greatRatios()...)
	list = append(list, ratio(31622, 1), ratio(31623, 1), ratio(31623, 31622), ratio(1, 31623), ratio(3, impl.MaxTerm), ratio(500000000, 1),
		ratio(1, 500000000), ratio(250000000, 3), ratio(142857143, 3), ratio(7, 3), ratio(99999, 100000), ratio(10000, 10001))
	limits := 0
	for _, r := range list {
		for _, s := range list {
			product := new(big.Rat).Mul(rat(r), rat(s))
			want, code := impl.Ratio{}, int64(impl.ErrLimit)
			if limit := big.NewInt(impl.MaxTerm); product.Num().Cmp(limit) <= 0 && product.Denom().Cmp(limit) <= 0 {
				want, code = ratio(product.Num().Int64(), product.Denom().Int64()), impl.OK
			} else {
				limits++
			}
			if got, c := impl.TimesRatio(r, s); got != want || c != code {
				t.Errorf("TimesRatio(%v, %v) = %v, %d, want %v, %d", r, s, got, c, want, code)
			}
		}
	}
	if limits == 0 {
		t.Error("no product goes beyond the limit")
	}
}

// TestTimesRatioByHand has products at the limit, and such as fit only when common
// divisors are left out first.
func TestTimesRatioByHand(t *testing.T) {
	none, most := impl.Ratio{}, int64(impl.MaxTerm)
	tests := []struct {
		r, s, want impl.Ratio
		code       int64
	}{
		{ratio(2, 3), ratio(3, 4), ratio(1, 2), impl.OK},
		{ratio(most, 1), ratio(1, most), ratio(1, 1), impl.OK},
		{ratio(most, most-1), ratio(most-1, most), ratio(1, 1), impl.OK},
		{ratio(most, 7), ratio(7, most-1), ratio(most, most-1), impl.OK},
		{ratio(most, 1), ratio(1, 1), ratio(most, 1), impl.OK},
		{ratio(500000000, 1), ratio(2, 1), ratio(most, 1), impl.OK},
		{ratio(1, 500000000), ratio(1, 2), ratio(1, most), impl.OK},
		{ratio(500000001, 1), ratio(2, 1), none, impl.ErrLimit},
		{ratio(1, 500000001), ratio(1, 2), none, impl.ErrLimit},
		{ratio(142857143, 1), ratio(7, 1), none, impl.ErrLimit}, // MaxTerm + 1
		{ratio(1, 7), ratio(1, 142857143), none, impl.ErrLimit},
		{ratio(142857143, 2), ratio(14, 1), none, impl.ErrLimit},
		{ratio(142857143, 7), ratio(49, 1), none, impl.ErrLimit},
		{ratio(142857143, 7), ratio(7, 1), ratio(142857143, 1), impl.OK},
		{ratio(31622, 1), ratio(31622, 1), ratio(999950884, 1), impl.OK},
		{ratio(31623, 1), ratio(31623, 1), none, impl.ErrLimit},
		{ratio(most, 1), ratio(most, 1), none, impl.ErrLimit},
		{ratio(1, most), ratio(1, most), none, impl.ErrLimit},
		{ratio(most, most-1), ratio(most, most-1), none, impl.ErrLimit},
		{ratio(most, 1), ratio(1, 3), ratio(most, 3), impl.OK},
	}
	for _, x := range tests {
		for range 2 {
			if got, code := impl.TimesRatio(x.r, x.s); got != x.want || code != x.code {
				t.Errorf("TimesRatio(%v, %v) = %v, %d, want %v, %d", x.r, x.s, got, code, x.want, x.code)
			}
			x.r, x.s = x.s, x.r
		}
	}
}

func TestValidTrain(t *testing.T) {
	for _, list := range goodTrains() {
		if !impl.ValidTrain(list) {
			t.Errorf("ValidTrain(%v) is false", list)
		}
	}
	for i, list := range badTrains() {
		if impl.ValidTrain(list) {
			t.Errorf("the bad train %d is valid", i)
		}
	}
	for teeth := int16(-3); teeth <= 300; teeth++ {
		want := teeth >= 8 && teeth <= 120
		if impl.ValidTrain(train(teeth, 50)) != want || impl.ValidTrain(train(50, teeth)) != want || impl.ValidTrain(train(50, 50, teeth, teeth)) != want {
			t.Errorf("ValidTrain with %d teeth is not %v", teeth, want)
		}
	}
}

func TestSameTrain(t *testing.T) {
	tests := []struct {
		a, b impl.Train
		want bool
	}{
		{train(10, 20), train(10, 20), true},
		{train(10, 20), train(10, 21), false},
		{train(10, 20), train(11, 20), false},
		{train(10, 20), train(20, 10), false},
		{train(10, 20, 15, 45), train(10, 20, 15, 45), true},
		{train(10, 20, 15, 45), train(15, 45, 10, 20), false},
		{train(10, 20, 15, 45), train(10, 20), false},
		{train(10, 20), train(20, 40), false}, // of one ratio
		{nil, impl.Train{}, true},
		{nil, nil, true},
		{nil, train(0, 0), false},
		{train(0, -7), train(0, -7), true}, // they need not be valid
		{train(0, -7), train(0, 7), false},
		{train(8, 8, 8, 8, 8, 8, 8, 8, 8, 8), train(8, 8, 8, 8, 8, 8, 8, 8, 8, 8), true},
		{train(8, 8, 8, 8, 8, 8, 8, 8, 8, 8), train(8, 8, 8, 8, 8, 8, 8, 8, 8, 9), false},
	}
	for _, x := range tests {
		if got := impl.SameTrain(x.a, x.b); got != x.want {
			t.Errorf("SameTrain(%v, %v) = %v", x.a, x.b, got)
		}
		if got := impl.SameTrain(x.b, x.a); got != x.want {
			t.Errorf("SameTrain(%v, %v) = %v", x.b, x.a, got)
		}
	}
}

func TestRatioOf(t *testing.T) {
	for _, list := range goodTrains() {
		want, teeth := big.NewRat(1, 1), int64(0)
		for _, p := range list {
			want.Mul(want, big.NewRat(int64(p.Driver), int64(p.Driven)))
			teeth += int64(p.Driver) + int64(p.Driven)
		}
		if r := mustRatio(t, list); rat(r).Cmp(want) != 0 || !impl.ValidRatio(r) {
			t.Errorf("RatioOf(%v) = %v, want %v", list, r, want)
		}
		if n, code := impl.TeethOf(list); n != teeth || code != impl.OK {
			t.Errorf("TeethOf(%v) = %d, %d, want %d", list, n, code, teeth)
		}
	}
	for p := int16(8); p <= 120; p++ {
		for q := int16(8); q <= 120; q++ {
			if r := mustRatio(t, train(p, q)); r != lowest(int64(p), int64(q)) {
				t.Errorf("the ratio of %d/%d is %v", p, q, r)
			}
		}
	}
}

func TestBackTrain(t *testing.T) {
	for _, x := range [][2]impl.Train{
		{train(10, 20, 15, 45), train(45, 15, 20, 10)},
		{train(8, 120), train(120, 8)},
		{train(8, 9, 10, 11, 12, 13), train(13, 12, 11, 10, 9, 8)},
		{train(8, 9, 10, 11, 12, 13, 14, 15), train(15, 14, 13, 12, 11, 10, 9, 8)},
	} {
		if back, code := impl.BackTrain(x[0]); !slices.Equal(back, x[1]) || code != impl.OK {
			t.Errorf("BackTrain(%v) = %v, %d", x[0], back, code)
		}
	}
	for _, list := range goodTrains() {
		back, code := impl.BackTrain(list)
		r, turned := mustRatio(t, list), mustRatio(t, back)
		if code != impl.OK || turned != ratio(r.Q, r.P) {
			t.Errorf("%v has the ratio %v, and from its end %v, code %d", list, r, turned, code)
		}
		if again, code := impl.BackTrain(back); !slices.Equal(again, list) || code != impl.OK {
			t.Errorf("%v is %v twice from its end, code %d", list, again, code)
		}
	}
}

func TestTrainTexts(t *testing.T) {
	tests := []struct {
		list impl.Train
		text string
	}{
		{train(8, 8), "8/8"},
		{train(8, 120), "8/120"},
		{train(10, 20, 15, 45), "10/20 15/45"},
		{train(8, 9, 10, 11, 99, 100), "8/9 10/11 99/100"},
		{train(120, 8, 119, 9, 100, 99, 8, 120), "120/8 119/9 100/99 8/120"},
	}
	for _, x := range tests {
		if text := impl.TrainText(x.list); text != x.text {
			t.Errorf("TrainText(%v) = %q, want %q", x.list, text, x.text)
		}
	}
	for _, list := range goodTrains() {
		if back, code := impl.ReadTrain(impl.TrainText(list)); !slices.Equal(back, list) || code != impl.OK {
			t.Errorf("%v is written %q, and read %v, %d", list, impl.TrainText(list), back, code)
		}
	}
	for i, list := range badTrains() {
		if text := impl.TrainText(list); text != "" {
			t.Errorf("the bad train %d has the text %q", i, short(text))
		}
	}
}

func TestTrainTextsThatAreNone(t *testing.T) {
	for _, text := range []string{
		"", " ", "/", "8", "8/", "/8", "8/8/8", "8//8", "8 8", "8/8 ", " 8/8", "8/8  8/8", "8/8\n", "8/8\t8/8", "8/8,8/8", "8:8", "8/8 8", "8/8 /",
		"7/8", "8/7", "0/8", "8/0", "121/8", "8/121", "8/8 7/8", "8/8 8/121", "-8/8", "8/-8", "+8/8", "8/+8", "08/8", "8/08", "008/120", "-0/8",
		"8.0/8", "8e1/8", "0x8/8", "1_0/8", "8/8x", "x8/8", "٨/8", "8/8\x00", "8/ 8", "8 /8", "264/8", "65544/8", "8/65544", "4294967304/8",
		"99999999999999999999/8", "8/-99999999999999999999", "8/8 8/8 8/8 8/8 8/8", "8/8 8/8 8/8 8/8 ", "8/8 8/8 8/8 8/8 x", "8/8 8/8 8/8 8/8\n", "\xff",
	} {
		if list, code := impl.ReadTrain(text); len(list) != 0 || code != impl.ErrSyntax {
			t.Errorf("ReadTrain(%q) = %v, %d", text, list, code)
		}
	}
	for _, part := range []string{"1", "0", "/", " ", "8/8 ", "8/", " 8/8", "\x00"} {
		long := strings.Repeat(part, 1000000/len(part))
		for _, text := range []string{long, "8/8 " + long, "8/" + long, long + "8/8"} {
			if list, code := impl.ReadTrain(text); len(list) != 0 || code != impl.ErrSyntax {
				t.Errorf("ReadTrain of many %q gives %v, %d", part, list, code)
			}
		}
	}
}
