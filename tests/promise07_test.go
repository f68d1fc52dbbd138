package tests

import (
	"cmp"
	"fmt"
	"math"
	"math/big"
	"slices"
	"testing"

	"loop.example/g01278/impl"
)

// fewestPairs returns for each ratio that a pair has the one with the fewest teeth.
func fewestPairs() map[impl.Ratio]impl.Pair {
	pairs := map[impl.Ratio]impl.Pair{}
	for p := int64(8); p <= 120; p++ {
		for q := int64(8); q <= 120; q++ {
			// Two pairs with one ratio have both numbers less, or both greater.
			if _, there := pairs[lowest(p, q)]; !there {
				pairs[lowest(p, q)] = impl.Pair{Driver: int16(p), Driven: int16(q)}
			}
		}
	}
	return pairs
}

// fewestTwo tries trains of two pairs with a ratio, and returns the first one of
// those with the fewest teeth, or nil.
func fewestTwo(r impl.Ratio) impl.Train {
	var best []int
	for a := 8; a <= 120; a++ {
		for b := 8; b <= 120; b++ {
			for c := 8; c <= 120; c++ {
				// a * c / (b * d) is P / Q for one d at most.
				over, under := int64(a*c)*r.Q, int64(b)*r.P
				d := int(over / under)
				if over%under != 0 || d < 8 || d > 120 {
					continue
				}
				next := []int{a + b + c + d, a, b, c, d}
				if best == nil || slices.Compare(next, best) < 0 {
					best = next
				}
			}
		}
	}
	if best == nil {
		return nil
	}
	return train(int16(best[1]), int16(best[2]), int16(best[3]), int16(best[4]))
}

// TestPromise7Pairs checks PairFor against all pairs.
func TestPromise7Pairs(t *testing.T) {
	pairs := fewestPairs()
	for _, r := range append(smallRatios(140), greatRatios()...) {
		want, code := impl.Train(nil), int64(impl.ErrNotFound)
		if p, there := pairs[r]; there {
			want, code = impl.Train{p}, impl.OK
		}
		if list, c := impl.PairFor(r); !slices.Equal(list, want) || c != code {
			t.Fatalf("PairFor(%v) = %v, %d, want %v, %d", r, list, c, want, code)
		}
		if code != impl.OK {
			continue
		}
		if list, c := impl.TrainFor(r); !slices.Equal(list, want) || c != impl.OK {
			t.Fatalf("TrainFor(%v) = %v, %d, want the pair %v", r, list, c, want)
		}
		if r := mustRatio(t, want); r != pairsRatio(want[0]) {
			t.Fatalf("the pair %v has the ratio %v", want, r)
		}
	}
}

func pairsRatio(p impl.Pair) impl.Ratio { return lowest(int64(p.Driver), int64(p.Driven)) }

// TestPromise7Trains tries all trains of two pairs with some ratios that no pair has.
func TestPromise7Trains(t *testing.T) {
	list := []impl.Ratio{
		ratio(1, 100), ratio(100, 1), ratio(1, 16), ratio(16, 1), ratio(7, 113), ratio(113, 7), ratio(1, 225), ratio(225, 1), ratio(1, 226), ratio(226, 1),
		ratio(1, 113), ratio(1, 127), ratio(127, 1), ratio(121, 1), ratio(121, 120), ratio(120, 121), ratio(169, 144), ratio(365, 12), ratio(59, 730), ratio(2, 59),
		ratio(3, 350), ratio(360, 7), ratio(143, 999), ratio(999, 143), ratio(143, 144), ratio(9797, 9900), ratio(14400, 14399), ratio(14399, 14400),
		ratio(11881, 12769), ratio(12769, 11881), ratio(14161, 1), ratio(14400, 1), ratio(64, 14161), ratio(355, 113), ratio(1440, 89), ratio(187, 189), ratio(1131, 1132),
		ratio(1000, 1001), ratio(1001, 1000), ratio(14280, 14279), ratio(119, 121), ratio(221, 324), ratio(13, 209), ratio(impl.MaxTerm, 1), ratio(1, impl.MaxTerm), ratio(999999937, 999999929),
	}
	none := 0
	for _, r := range list {
		want, code := fewestTwo(r), int64(impl.OK)
		if want == nil {
			code = impl.ErrNotFound
			none++
		}
		if got, c := impl.TrainFor(r); !slices.Equal(got, want) || c != code {
			t.Errorf("TrainFor(%v) = %v, %d, want %v, %d", r, got, c, want, code)
		}
		if want != nil && mustRatio(t, want) != r {
			t.Errorf("the train %v of %v has the ratio %v", want, r, mustRatio(t, want))
		}
	}
	if none < 5 || none > len(list)/2 {
		t.Errorf("%d of %d ratios have no train", none, len(list))
	}
}

// TestPromise7TrainsFound checks what is found for the ratios of many trains: none
// has more teeth than the train that the ratio is of.
func TestPromise7TrainsFound(t *testing.T) {
	for i := range int64(20000) {
		n := func(k int64) int16 { return int16(8 + (i*i*k+i*7919*k+k)%113) }
		made := train(n(1), n(3), n(5), n(11))
		r := mustRatio(t, made)
		list, code := impl.TrainFor(r)
		if code != impl.OK || !impl.ValidTrain(list) || mustRatio(t, list) != r {
			t.Fatalf("TrainFor(%v) = %v, %d, but %v has it", r, list, code, made)
		}
		_, code = impl.PairFor(r)
		if len(list) == 1 && code == impl.OK {
			continue
		}
		few, _ := impl.TeethOf(list)
		more, _ := impl.TeethOf(made)
		numbers := func(t impl.Train) []int16 { return []int16{t[0].Driver, t[0].Driven, t[1].Driver, t[1].Driven} }
		if len(list) != 2 || code != impl.ErrNotFound || few > more || few == more && slices.Compare(numbers(list), numbers(made)) > 0 {
			t.Fatalf("TrainFor(%v) = %v, with %d teeth; %v has %d, and PairFor the code %d", r, list, few, made, more, code)
		}
	}
}

func TestPromise7TrainsByHand(t *testing.T) {
	tests := []struct {
		r    impl.Ratio
		want string
	}{
		{ratio(1, 1), "8/8"},
		{ratio(1, 6), "8/48"},
		{ratio(2, 3), "8/12"},
		{ratio(8, 9), "8/9"},
		{ratio(7, 9), "14/18"},
		{ratio(1, 15), "8/120"},
		{ratio(15, 1), "120/8"},
		{ratio(119, 120), "119/120"},
		{ratio(120, 113), "120/113"},
		{ratio(7, 60), "14/120"}, // just MaxTeeth
		{ratio(7, 61), "8/16 14/61"},
		{ratio(1, 16), "8/32 8/32"},
		{ratio(16, 1), "32/8 32/8"},
		{ratio(1, 100), "8/80 8/80"},
		{ratio(1, 225), "8/120 8/120"},
		{ratio(225, 1), "120/8 120/8"},
		{ratio(121, 1), "88/8 88/8"},
		{ratio(120, 121), "10/11 12/11"},
		{ratio(121, 120), "11/10 11/12"},
		{ratio(14400, 14161), "120/119 120/119"},
		{ratio(1, 226), ""},
		{ratio(226, 1), ""},
		{ratio(127, 1), ""}, // no wheel has a multiple of 127
		{ratio(1, 127), ""},
		{ratio(14401, 14400), ""},
	}
	for _, x := range tests {
		list, code := impl.TrainFor(x.r)
		if text := impl.TrainText(list); text != x.want || (code == impl.OK) != (x.want != "") || code != impl.OK && code != impl.ErrNotFound {
			t.Errorf("TrainFor(%v) = %q, %d, want %q", x.r, text, code, x.want)
		}
	}
	for _, r := range []impl.Ratio{ratio(1, 16), ratio(7, 61), ratio(121, 120), ratio(120, 121), ratio(1, 120), ratio(impl.MaxTerm, 1)} {
		list, code := impl.PairFor(r)
		mustCode(t, fmt.Sprint("PairFor ", r), code, impl.ErrNotFound)
		if len(list) != 0 {
			t.Errorf("PairFor(%v) = %v", r, list)
		}
	}
}

// TestPromise7NearestPair tries all pairs: the nearest one has the fewest teeth of
// several, and then the least driver.
func TestPromise7NearestPair(t *testing.T) {
	for _, most := range []int64{8, 9, 10, 11, 16, 20} {
		for _, r := range append(append(smallRatios(13), greatRatios()...), middles(8, most)...) {
			checkNearestPair(t, r, most)
		}
	}
	for _, most := range []int64{60, 119, 120} {
		for _, r := range append(greatRatios(), ratio(2, 29), ratio(1, 15), ratio(1, 16), ratio(16, 1), ratio(577, 408), ratio(119, 120), ratio(239, 240)) {
			checkNearestPair(t, r, most)
		}
	}
}

func checkNearestPair(t *testing.T, r impl.Ratio, most int64) {
	t.Helper()
	want := slices.MinFunc(nearestByTrial(r, 8, most), func(a, b [2]int64) int {
		return cmp.Or(cmp.Compare(a[0]+a[1], b[0]+b[1]), cmp.Compare(a[0], b[0]))
	})
	pair, code := impl.NearestPair(r, most)
	if !slices.Equal(pair, train(int16(want[0]), int16(want[1]))) || code != impl.OK {
		t.Fatalf("NearestPair(%v, %d) = %v, %d, want %v", r, most, pair, code, want)
	}
}

func TestPromise7NearestPairByHand(t *testing.T) {
	tests := []struct {
		r    impl.Ratio
		most int64
		want string
	}{
		{ratio(355, 113), 60, "44/14"},
		{ratio(355, 113), 120, "44/14"},
		{ratio(1, 1), 120, "8/8"},
		{ratio(355, 113), 8, "8/8"},
		{ratio(impl.MaxTerm, 1), 120, "120/8"},
		{ratio(1, impl.MaxTerm), 120, "8/120"},
		{ratio(1, impl.MaxTerm), 9, "8/9"},
		{ratio(17, 16), 9, "8/8"}, // 8/8 and 9/8 are as near: the fewest teeth
		{ratio(17, 18), 9, "8/8"}, // so are 8/9 and 8/8
		{ratio(1, 6), 120, "8/48"},
		{ratio(1, 6), 47, "8/47"},
		{ratio(31, 32), 16, "8/8"}, // 15/16 and 8/8 are as near
	}
	for _, x := range tests {
		if pair, code := impl.NearestPair(x.r, x.most); impl.TrainText(pair) != x.want || code != impl.OK {
			t.Errorf("NearestPair(%v, %d) = %v, %d, want %s", x.r, x.most, pair, code, x.want)
		}
	}
	for _, most := range []int64{7, 121, 0, -8, 1 << 32, math.MaxInt64, math.MinInt64} {
		pair, code := impl.NearestPair(ratio(1, 6), most)
		mustCode(t, "NearestPair", code, impl.ErrRange)
		if len(pair) != 0 {
			t.Errorf("NearestPair with most %d is %v", most, pair)
		}
		for _, r := range badRatios() { // what is not valid comes ahead of most
			_, code := impl.NearestPair(r, most)
			mustCode(t, "NearestPair of no ratio", code, impl.ErrInvalid)
		}
	}
}

// TestPromise7Driven counts turns beside a gearbox.
func TestPromise7Driven(t *testing.T) {
	for _, list := range goodTrains() {
		g := boxOf(list)
		for count := range int64(1500) {
			if n, code := impl.DrivenCount(list, count); n != g.turns || code != impl.OK {
				t.Fatalf("DrivenCount(%v, %d) = %d, %d, want %d", list, count, n, code, g.turns)
			}
			g.on()
		}
	}
}

func TestPromise7DrivenGreat(t *testing.T) {
	for _, list := range goodTrains() {
		for _, count := range []int64{0, 1, 999999937, impl.MaxTerm - 1, impl.MaxTerm} {
			want := new(big.Int).SetInt64(count)
			under := big.NewInt(1)
			for _, p := range list {
				want.Mul(want, big.NewInt(int64(p.Driver)))
				under.Mul(under, big.NewInt(int64(p.Driven)))
			}
			want.Quo(want, under)
			if n, code := impl.DrivenCount(list, count); n != want.Int64() || code != impl.OK {
				t.Errorf("DrivenCount(%v, %d) = %d, %d, want %v", list, count, n, code, want)
			}
		}
		for _, count := range []int64{-1, impl.MaxTerm + 1, -impl.MaxTerm, 1 << 32, math.MaxInt64, math.MinInt64} {
			n, code := impl.DrivenCount(list, count)
			mustCode(t, "DrivenCount", code, impl.ErrRange)
			off, codeOff := impl.OffAfter(list, ratio(1, 6), count)
			mustCode(t, "OffAfter", codeOff, impl.ErrRange)
			if n != 0 || off != 0 {
				t.Errorf("DrivenCount %d and OffAfter %d with the count %d", n, off, count)
			}
		}
	}
}

// TestPromise7Off counts beside two gearboxes until a counter is off, and on.
func TestPromise7Off(t *testing.T) {
	wanted := append(smallRatios(5), greatRatios()...)
	for _, list := range goodTrains() {
		r := mustRatio(t, list)
		for _, s := range append(wanted, r, ratio(1, 6), ratio(120, 119)) {
			if rat(s).Cmp(big.NewRat(100000, 1)) < 0 { // a gearbox takes turn after turn
				checkOffs(t, list, s)
			}
		}
	}
}

func checkOffs(t *testing.T, list impl.Train, r impl.Ratio) {
	t.Helper()
	const most = 400
	driven, should := boxOf(list), boxFor(r)
	first, code := int64(0), int64(impl.ErrNotFound)
	for count := range int64(most + 1) {
		if off, c := impl.OffAfter(list, r, count); off != driven.turns-should.turns || c != impl.OK {
			t.Fatalf("OffAfter(%v, %v, %d) = %d, %d, want %d", list, r, count, off, c, driven.turns-should.turns)
		}
		if driven.turns != should.turns && first == 0 {
			first, code = count, impl.OK
		}
		driven.on()
		should.on()
	}
	if n, c := impl.FirstOff(list, r, most); n != first || c != code {
		t.Fatalf("FirstOff(%v, %v, %d) = %d, %d, want %d, %d", list, r, most, n, c, first, code)
	}
	if code != impl.OK {
		return
	}
	if n, c := impl.FirstOff(list, r, first); n != first || c != impl.OK {
		t.Fatalf("FirstOff(%v, %v, %d) = %d, %d: it is off at just most", list, r, first, n, c)
	}
	if n, c := impl.FirstOff(list, r, first-1); first > 1 && (n != 0 || c != impl.ErrNotFound) {
		t.Fatalf("FirstOff(%v, %v, %d) = %d, %d, but it is off at %d", list, r, first-1, n, c, first)
	}
}

func TestPromise7OffByHand(t *testing.T) {
	even, pi := train(8, 8), train(44, 14)
	tests := []struct {
		list impl.Train
		r    impl.Ratio
		most int64
		want int64 // 0 for none
	}{
		{pi, ratio(355, 113), 1000, 7},
		{pi, ratio(355, 113), 7, 7},
		{pi, ratio(355, 113), 6, 0},
		{pi, ratio(22, 7), 100000, 0}, // it never is
		{train(10, 20, 15, 45), ratio(1, 6), 100000, 0},
		{train(10, 20, 15, 45), ratio(1, 6), 1, 0},
		{even, ratio(100, 99), 100000, 99},            // one is missing behind 99
		{even, ratio(99, 100), 100000, 1},             // one is too much at once
		{even, ratio(100001, 100000), 100000, 100000}, // at just the most that most may be
		{even, ratio(100001, 100000), 99999, 0},
		{even, ratio(100002, 100001), 100000, 0}, // and behind it
		{even, ratio(impl.MaxTerm, 1), 1, 1},
		{even, ratio(1, impl.MaxTerm), 1, 1},
		{train(8, 120), ratio(1, impl.MaxTerm), 100000, 15}, // the first turn of the last wheel
		{train(8, 120), ratio(2, 29), 100000, 29},           // 1 against 2; both have 1 behind 15
		{train(8, 120), ratio(1, 14), 100000, 14},
		{train(60, 119), ratio(1, 2), 100000, 119}, // 60 against 59
		{train(120, 8, 120, 8), ratio(225, 1), 100000, 0},
		{train(120, 8, 120, 8), ratio(449, 2), 100000, 1}, // 225 against 224
		{train(120, 8, 120, 8), ratio(22501, 100), 1000, 100},
	}
	for _, x := range tests {
		code := int64(impl.OK)
		if x.want == 0 {
			code = impl.ErrNotFound
		}
		if n, c := impl.FirstOff(x.list, x.r, x.most); n != x.want || c != code {
			t.Errorf("FirstOff(%v, %v, %d) = %d, %d, want %d, %d", x.list, x.r, x.most, n, c, x.want, code)
		}
	}
}

func TestPromise7OffGreat(t *testing.T) {
	most := int64(impl.MaxTerm)
	tests := []struct {
		list impl.Train
		r    impl.Ratio
		want int64
	}{
		{train(8, 8), ratio(most, 1), most - most*most},
		{train(8, 8), ratio(1, most), most - 1},
		{train(8, 8), ratio(most, most-1), -1}, // most * most / (most - 1) is most + 1 and a little
		{train(8, 8), ratio(most-1, most), 1},
		{train(120, 8, 120, 8, 120, 8, 120, 8), ratio(1, most), 50625*most - 1},
		{train(8, 120, 8, 120, 8, 120, 8, 120), ratio(1, most), 19753 - 1},
		{train(44, 14), ratio(355, 113), 3142857142 - 3141592920},
		{train(44, 14), ratio(22, 7), 0},
	}
	for _, x := range tests {
		if off, code := impl.OffAfter(x.list, x.r, most); off != x.want || code != impl.OK {
			t.Errorf("OffAfter(%v, %v, MaxTerm) = %d, %d, want %d", x.list, x.r, off, code, x.want)
		}
	}
}

// TestPromise7OffErrors checks what is refused, and in which order.
func TestPromise7OffErrors(t *testing.T) {
	same := train(10, 20)
	for _, most := range []int64{0, -1, 100001, 1 << 32, math.MaxInt64, math.MinInt64} {
		for _, r := range []impl.Ratio{ratio(1, 2), ratio(1, 3)} { // never off, and off
			n, code := impl.FirstOff(same, r, most)
			mustCode(t, "FirstOff", code, impl.ErrRange)
			if n != 0 {
				t.Errorf("FirstOff with most %d is %d", most, n)
			}
		}
	}
	for _, n := range []int64{-1, 0, 1, 100000, 100001, math.MaxInt64} {
		for _, r := range badRatios() {
			_, code := impl.FirstOff(same, r, n)
			mustCode(t, "FirstOff of no ratio", code, impl.ErrInvalid)
			_, code = impl.OffAfter(same, r, n)
			mustCode(t, "OffAfter of no ratio", code, impl.ErrInvalid)
		}
		for _, list := range badTrains() {
			_, code := impl.FirstOff(list, ratio(1, 2), n)
			mustCode(t, "FirstOff of no train", code, impl.ErrInvalid)
			_, code = impl.OffAfter(list, ratio(1, 2), n)
			mustCode(t, "OffAfter of no train", code, impl.ErrInvalid)
			_, code = impl.DrivenCount(list, n)
			mustCode(t, "DrivenCount of no train", code, impl.ErrInvalid)
		}
	}
}
