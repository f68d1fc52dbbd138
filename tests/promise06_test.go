package tests

import (
	"math"
	"math/big"
	"slices"
	"testing"

	"loop.example/g01278/impl"
)

// termsByWords returns terms by taking away: how often Q goes into P, and then what
// is left into Q.
func termsByWords(r impl.Ratio) []int64 {
	var list []int64
	for p, q := r.P, r.Q; q > 0; {
		n := int64(0)
		for ; p >= q; p -= q {
			n++
		}
		list = append(list, n)
		p, q = q, p
	}
	return list
}

// byTerms returns the ratio with some terms, from the last one on.
func byTerms(terms []int64) *big.Rat {
	sum := new(big.Rat)
	for i, term := range slices.Backward(terms) {
		if i < len(terms)-1 {
			sum.Inv(sum)
		}
		sum.Add(sum, new(big.Rat).SetInt64(term))
	}
	return sum
}

// TestPromise6Again checks that a ratio is made again of its terms.
func TestPromise6Again(t *testing.T) {
	for _, r := range append(smallRatios(70), greatRatios()...) {
		terms, code := impl.TermsOf(r)
		if code != impl.OK || len(terms) == 0 || byTerms(terms).Cmp(rat(r)) != 0 {
			t.Fatalf("TermsOf(%v) = %v, %d", r, terms, code)
		}
		if again, code := impl.FromTerms(terms); again != r || code != impl.OK {
			t.Fatalf("FromTerms(%v) = %v, %d, want %v", terms, again, code, r)
		}
		if last := len(terms) - 1; last > 0 && terms[last] == 1 {
			t.Fatalf("the last term of %v is 1: %v", r, terms)
		}
		if max(r.P, r.Q) <= 1000 {
			if want := termsByWords(r); !slices.Equal(terms, want) {
				t.Fatalf("TermsOf(%v) = %v, want %v", r, terms, want)
			}
		}
	}
}

func TestPromise6TermsByHand(t *testing.T) {
	tests := []struct {
		r           impl.Ratio
		terms       []int64
		convergents []impl.Ratio
	}{
		{ratio(355, 113), []int64{3, 7, 16}, []impl.Ratio{{P: 3, Q: 1}, {P: 22, Q: 7}, {P: 355, Q: 113}}},
		{ratio(113, 355), []int64{0, 3, 7, 16}, []impl.Ratio{{P: 1, Q: 3}, {P: 7, Q: 22}, {P: 113, Q: 355}}},
		{ratio(1, 1), []int64{1}, []impl.Ratio{{P: 1, Q: 1}}},
		{ratio(5, 1), []int64{5}, []impl.Ratio{{P: 5, Q: 1}}},
		{ratio(1, 5), []int64{0, 5}, []impl.Ratio{{P: 1, Q: 5}}},
		{ratio(3, 2), []int64{1, 2}, []impl.Ratio{{P: 1, Q: 1}, {P: 3, Q: 2}}},
		{ratio(2, 3), []int64{0, 1, 2}, []impl.Ratio{{P: 1, Q: 1}, {P: 2, Q: 3}}},
		{ratio(13, 8), []int64{1, 1, 1, 1, 2}, []impl.Ratio{{P: 1, Q: 1}, {P: 2, Q: 1}, {P: 3, Q: 2}, {P: 5, Q: 3}, {P: 13, Q: 8}}},
		{ratio(415, 93), []int64{4, 2, 6, 7}, []impl.Ratio{{P: 4, Q: 1}, {P: 9, Q: 2}, {P: 58, Q: 13}, {P: 415, Q: 93}}},
		{ratio(impl.MaxTerm, 1), []int64{impl.MaxTerm}, []impl.Ratio{{P: impl.MaxTerm, Q: 1}}},
		{ratio(1, impl.MaxTerm), []int64{0, impl.MaxTerm}, []impl.Ratio{{P: 1, Q: impl.MaxTerm}}},
		{ratio(impl.MaxTerm, impl.MaxTerm-1), []int64{1, impl.MaxTerm - 1}, []impl.Ratio{{P: 1, Q: 1}, {P: impl.MaxTerm, Q: impl.MaxTerm - 1}}},
	}
	for _, x := range tests {
		if terms, code := impl.TermsOf(x.r); !slices.Equal(terms, x.terms) || code != impl.OK {
			t.Errorf("TermsOf(%v) = %v, %d, want %v", x.r, terms, code, x.terms)
		}
		if list, code := impl.ConvergentsOf(x.r); !slices.Equal(list, x.convergents) || code != impl.OK {
			t.Errorf("ConvergentsOf(%v) = %v, %d, want %v", x.r, list, code, x.convergents)
		}
	}
}

// TestPromise6Convergents checks that convergents are the ratios of the first terms,
// each one nearer than the one before.
func TestPromise6Convergents(t *testing.T) {
	for _, r := range append(smallRatios(70), greatRatios()...) {
		terms, _ := impl.TermsOf(r)
		var want []impl.Ratio
		for n := 1; n <= len(terms); n++ {
			if first := byTerms(terms[:n]); first.Sign() > 0 {
				want = append(want, ratio(first.Num().Int64(), first.Denom().Int64()))
			}
		}
		list, code := impl.ConvergentsOf(r)
		if !slices.Equal(list, want) || code != impl.OK {
			t.Fatalf("ConvergentsOf(%v) = %v, %d, want %v", r, list, code, want)
		}
		for i := 1; i < len(list); i++ {
			if apartByWords(r, list[i].P, list[i].Q).Cmp(apartByWords(r, list[i-1].P, list[i-1].Q)) >= 0 {
				t.Fatalf("%v: the convergent %v is no nearer than %v", r, list[i], list[i-1])
			}
		}
		if list[len(list)-1] != r {
			t.Fatalf("the last convergent of %v is %v", r, list[len(list)-1])
		}
	}
}

// TestPromise6AllTerms makes ratios of lists of terms of every kind, also such as
// end with 1.
func TestPromise6AllTerms(t *testing.T) {
	var visit func(terms []int64)
	visit = func(terms []int64) {
		if len(terms) > 1 || len(terms) == 1 && terms[0] > 0 {
			want := byTerms(terms)
			r, code := impl.FromTerms(terms)
			if code != impl.OK || !impl.ValidRatio(r) || rat(r).Cmp(want) != 0 {
				t.Fatalf("FromTerms(%v) = %v, %d, want %v", terms, r, code, want)
			}
		}
		if len(terms) == 5 {
			return
		}
		for _, next := range []int64{0, 1, 2, 3, 10} {
			if next > 0 || len(terms) == 0 {
				visit(append(slices.Clone(terms), next))
			}
		}
	}
	visit(nil)
}

// TestPromise6TermErrors checks the limits of lists of terms: ranges in all of them
// come ahead of the limit.
func TestPromise6TermErrors(t *testing.T) {
	most := int64(impl.MaxTerm)
	ones := func(n int) []int64 { return slices.Repeat([]int64{1}, n) }
	none := impl.Ratio{}
	tests := []struct {
		terms []int64
		want  impl.Ratio
		code  int64
	}{
		{nil, none, impl.ErrRange},
		{[]int64{}, none, impl.ErrRange},
		{[]int64{0}, none, impl.ErrRange},
		{[]int64{1}, ratio(1, 1), impl.OK},
		{[]int64{-1}, none, impl.ErrRange},
		{[]int64{-1, 2}, none, impl.ErrRange},
		{[]int64{0, 1}, ratio(1, 1), impl.OK},
		{[]int64{3, 1}, ratio(4, 1), impl.OK},
		{[]int64{0, 0}, none, impl.ErrRange},
		{[]int64{1, 0}, none, impl.ErrRange},
		{[]int64{1, 0, 1}, none, impl.ErrRange},
		{[]int64{1, 2, -1}, none, impl.ErrRange},
		{[]int64{most}, ratio(most, 1), impl.OK},
		{[]int64{most + 1}, none, impl.ErrRange},
		{[]int64{0, most}, ratio(1, most), impl.OK},
		{[]int64{0, most + 1}, none, impl.ErrRange},
		{[]int64{math.MaxInt64}, none, impl.ErrRange},
		{[]int64{math.MinInt64}, none, impl.ErrRange},
		{[]int64{5, math.MinInt64}, none, impl.ErrRange},
		{[]int64{1, most}, none, impl.ErrLimit}, // most + 1
		{[]int64{1, most - 1}, ratio(most, most-1), impl.OK},
		{[]int64{most, 1}, none, impl.ErrLimit},
		{[]int64{most - 1, 1}, ratio(most, 1), impl.OK},
		{[]int64{most, 2}, none, impl.ErrLimit},
		{[]int64{0, most, 1}, none, impl.ErrLimit}, // 1 / (most + 1)
		{[]int64{0, most - 1, 1}, ratio(1, most), impl.OK},
		{[]int64{0, 1, most}, none, impl.ErrLimit}, // most / (most + 1)
		{[]int64{0, 1, most - 1}, ratio(most-1, most), impl.OK},
		{[]int64{31622, 31622}, ratio(999950885, 31622), impl.OK},
		{[]int64{31623, 31623}, none, impl.ErrLimit},
		{[]int64{most, most, most}, none, impl.ErrLimit}, // the first two alone are too much
		{slices.Repeat([]int64{most}, 60), none, impl.ErrLimit},
		{[]int64{most, most, 0}, none, impl.ErrRange}, // a range ahead of a limit
		{[]int64{most, most, most, most + 1}, none, impl.ErrRange},
		{append(slices.Repeat([]int64{most}, 60), 1), none, impl.ErrRange}, // too many terms
		{ones(43), ratio(701408733, 433494437), impl.OK},
		{ones(44), none, impl.ErrLimit},
		{append([]int64{0}, ones(43)...), ratio(433494437, 701408733), impl.OK},
		{append([]int64{0}, ones(44)...), none, impl.ErrLimit},
		{ones(60), none, impl.ErrLimit},
		{append([]int64{0}, ones(59)...), none, impl.ErrLimit},
		{ones(61), none, impl.ErrRange},
		{append([]int64{0}, ones(60)...), none, impl.ErrRange},
		{ones(1000000), none, impl.ErrRange},
		{append(ones(59), 0), none, impl.ErrRange},
		{append(ones(59), -1), none, impl.ErrRange},
		{append(ones(59), most+1), none, impl.ErrRange},
	}
	for _, x := range tests {
		if r, code := impl.FromTerms(x.terms); r != x.want || code != x.code {
			t.Errorf("FromTerms of %d terms %v.. = %v, %d, want %v, %d", len(x.terms), x.terms[:min(len(x.terms), 5)], r, code, x.want, x.code)
		}
	}
}

// TestPromise6Nearest tries all ratios within each bound: the nearest one has the
// least Q of several, and then the least P.
func TestPromise6Nearest(t *testing.T) {
	list := append(smallRatios(14), greatRatios()...)
	for most := int64(1); most <= 12; most++ {
		for _, r := range append(slices.Clone(list), middles(1, most)...) {
			checkNearest(t, r, most)
		}
	}
	for _, r := range append(greatRatios(), ratio(17, 1000), ratio(523, 997), ratio(1999, 2), ratio(1, 1999), ratio(577, 408)) {
		for _, most := range []int64{100, 999, 1000} {
			checkNearest(t, r, most)
		}
	}
}

func checkNearest(t *testing.T, r impl.Ratio, most int64) {
	t.Helper()
	// All that are found are sorted by Q and then by P as they are.
	first := nearestByTrial(r, 1, most)[0]
	if near, code := impl.NearestRatio(r, most); near != ratio(first[0], first[1]) || code != impl.OK {
		t.Fatalf("NearestRatio(%v, %d) = %v, %d, want %v", r, most, near, code, first)
	}
}

// middles returns ratios that are just as far from two that are next to each other,
// of those with numbers from low to high.
func middles(low, high int64) []impl.Ratio {
	var all []*big.Rat
	for q := low; q <= high; q++ {
		for p := low; p <= high; p++ {
			all = append(all, big.NewRat(p, q))
		}
	}
	slices.SortFunc(all, func(a, b *big.Rat) int { return a.Cmp(b) })
	var list []impl.Ratio
	for i := 1; i < len(all); i++ {
		if all[i].Cmp(all[i-1]) != 0 {
			middle := new(big.Rat).Add(all[i], all[i-1])
			middle.Quo(middle, big.NewRat(2, 1))
			list = append(list, ratio(middle.Num().Int64(), middle.Denom().Int64()))
		}
	}
	return list
}

func TestPromise6NearestByHand(t *testing.T) {
	tests := []struct {
		r    impl.Ratio
		most int64
		want impl.Ratio
	}{
		{ratio(355, 113), 30, ratio(22, 7)},
		{ratio(355, 113), 6, ratio(3, 1)},
		{ratio(355, 113), 354, ratio(333, 106)},
		{ratio(355, 113), 355, ratio(355, 113)},
		{ratio(3, 2), 1, ratio(1, 1)},
		{ratio(3, 2), 2, ratio(1, 1)}, // 1/1 and 2/1 are as near: the least P of one Q
		{ratio(3, 2), 3, ratio(3, 2)},
		{ratio(7, 4), 3, ratio(2, 1)},  // 2/1 and 3/2 are as near: the least Q
		{ratio(3, 4), 2, ratio(1, 1)},  // 1/1 and 1/2 are as near
		{ratio(5, 2), 4, ratio(2, 1)},  // 2/1 and 3/1 are
		{ratio(5, 12), 3, ratio(1, 2)}, // 1/2 and 1/3 are
		{ratio(impl.MaxTerm, 1), 1, ratio(1, 1)},
		{ratio(impl.MaxTerm, 1), 1000, ratio(1000, 1)},
		{ratio(1, impl.MaxTerm), 1000, ratio(1, 1000)},
		{ratio(impl.MaxTerm, impl.MaxTerm-1), 1000, ratio(1, 1)},
		{ratio(1001, 1000), 1000, ratio(1000, 999)},
		{ratio(1000, 1001), 1000, ratio(999, 1000)},
		{ratio(1999, 2), 1000, ratio(999, 1)}, // 999/1 and 1000/1 are as near
	}
	for _, x := range tests {
		if near, code := impl.NearestRatio(x.r, x.most); near != x.want || code != impl.OK {
			t.Errorf("NearestRatio(%v, %d) = %v, %d, want %v", x.r, x.most, near, code, x.want)
		}
	}
}

func TestPromise6NearestErrors(t *testing.T) {
	for _, most := range []int64{0, -1, 1001, 1 << 32, math.MaxInt64, math.MinInt64} {
		near, code := impl.NearestRatio(ratio(3, 2), most)
		mustCode(t, "NearestRatio", code, impl.ErrRange)
		if near != (impl.Ratio{}) {
			t.Errorf("NearestRatio with most %d is %v", most, near)
		}
		for _, r := range badRatios() { // what is not valid comes ahead of most
			_, code := impl.NearestRatio(r, most)
			mustCode(t, "NearestRatio of no ratio", code, impl.ErrInvalid)
		}
	}
}

// TestPromise6Nearer compares exact distances.
func TestPromise6Nearer(t *testing.T) {
	list := append(smallRatios(8), ratio(1000, 1), ratio(1, 1000), ratio(999, 1000), ratio(1000, 999), ratio(22, 7), ratio(355, 113))
	for _, r := range append(smallRatios(6), greatRatios()...) {
		for _, a := range list {
			for _, b := range list {
				want := int64(apartByWords(r, a.P, a.Q).Cmp(apartByWords(r, b.P, b.Q)))
				if c, code := impl.NearerRatio(r, a, b); c != want || code != impl.OK {
					t.Fatalf("NearerRatio(%v, %v, %v) = %d, %d, want %d", r, a, b, c, code, want)
				}
			}
		}
	}
	for _, r := range append(smallRatios(9), greatRatios()...) { // no ratio is nearer than the nearest one
		near, _ := impl.NearestRatio(r, 40)
		for _, s := range smallRatios(40) {
			if c, code := impl.NearerRatio(r, near, s); c > 0 || code != impl.OK {
				t.Fatalf("%v is nearer to %v than %v, code %d", s, r, near, code)
			}
		}
	}
}

func TestPromise6NearerErrors(t *testing.T) {
	r := ratio(impl.MaxTerm, 7) // only a and b have a bound
	for _, x := range []struct {
		a, b impl.Ratio
		want int64
	}{
		{ratio(1000, 1), ratio(1, 1000), impl.OK},
		{ratio(1, 1000), ratio(1000, 1), impl.OK},
		{ratio(1001, 1), ratio(1, 1), impl.ErrRange},
		{ratio(1, 1001), ratio(1, 1), impl.ErrRange},
		{ratio(1, 1), ratio(1001, 1), impl.ErrRange},
		{ratio(1, 1), ratio(1, 1001), impl.ErrRange},
		{ratio(1001, 1), ratio(1001, 1), impl.ErrRange},
		{ratio(1001, 1), ratio(2, 2), impl.ErrInvalid}, // what is not valid comes first
		{ratio(0, 1), ratio(1001, 1), impl.ErrInvalid},
	} {
		c, code := impl.NearerRatio(r, x.a, x.b)
		mustCode(t, "NearerRatio", code, x.want)
		if code != impl.OK && c != 0 {
			t.Errorf("NearerRatio(%v, %v, %v) = %d", r, x.a, x.b, c)
		}
		_, code = impl.NearerRatio(ratio(6, 4), x.a, x.b)
		mustCode(t, "NearerRatio to no ratio", code, impl.ErrInvalid)
	}
	for _, bad := range badRatios() {
		_, code := impl.NearerRatio(r, bad, ratio(1, 1))
		mustCode(t, "NearerRatio of no ratio", code, impl.ErrInvalid)
		_, code = impl.NearerRatio(r, ratio(1, 1), bad)
		mustCode(t, "NearerRatio of no ratio", code, impl.ErrInvalid)
	}
}
