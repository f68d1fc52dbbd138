package tests

import (
	"math"
	"math/big"
	"slices"
	"testing"

	"loop.example/g01278/impl"
)

// gearbox counts whole turns of a last wheel, one turn of the first driver behind
// the other: a turn is made as often as enough is there, without a division.
type gearbox struct {
	each, whole int64 // what comes with each turn, and what makes one
	there       int64
	turns       int64
}

func boxOf(t impl.Train) *gearbox {
	g := &gearbox{each: 1, whole: 1}
	for _, p := range t {
		g.each *= int64(p.Driver)
		g.whole *= int64(p.Driven)
	}
	return g
}

func boxFor(r impl.Ratio) *gearbox { return &gearbox{each: r.P, whole: r.Q} }

// on turns the first driver once.
func (g *gearbox) on() {
	for g.there += g.each; g.there >= g.whole; g.there -= g.whole {
		g.turns++
	}
}

func ratio(p, q int64) impl.Ratio { return impl.Ratio{P: p, Q: q} }

func rat(r impl.Ratio) *big.Rat { return big.NewRat(r.P, r.Q) }

// lowest returns p / q without common divisors, as the library finds them.
func lowest(p, q int64) impl.Ratio {
	r := big.NewRat(p, q)
	return ratio(r.Num().Int64(), r.Denom().Int64())
}

// apartByWords returns how far p / q is from a ratio.
func apartByWords(r impl.Ratio, p, q int64) *big.Rat {
	d := new(big.Rat).Sub(rat(r), big.NewRat(p, q))
	return d.Abs(d)
}

// nearestByTrial tries all p / q of low to high each, and returns all that are
// nearest to a ratio.
func nearestByTrial(r impl.Ratio, low, high int64) [][2]int64 {
	var list [][2]int64
	far := func(p, q int64) int64 { return max(r.P*q-p*r.Q, p*r.Q-r.P*q) } // times r.Q and q
	for q := low; q <= high; q++ {
		for p := low; p <= high; p++ {
			if len(list) > 0 {
				one, best := far(p, q)*list[0][1], far(list[0][0], list[0][1])*q
				if one > best {
					continue
				}
				if one < best {
					list = nil
				}
			}
			list = append(list, [2]int64{p, q})
		}
	}
	return list
}

// smallRatios are all ratios with numbers of at most most.
func smallRatios(most int64) []impl.Ratio {
	var list []impl.Ratio
	for q := int64(1); q <= most; q++ {
		for p := int64(1); p <= most; p++ {
			if lowest(p, q) == ratio(p, q) {
				list = append(list, ratio(p, q))
			}
		}
	}
	return list
}

// greatRatios have numbers at or near the limit, or many terms.
func greatRatios() []impl.Ratio {
	return []impl.Ratio{
		ratio(355, 113), ratio(103993, 33102), ratio(impl.MaxTerm, 1), ratio(1, impl.MaxTerm),
		ratio(impl.MaxTerm, impl.MaxTerm-1), ratio(impl.MaxTerm-1, impl.MaxTerm), ratio(impl.MaxTerm, 3), ratio(7, impl.MaxTerm),
		ratio(701408733, 433494437), ratio(433494437, 701408733), // all terms but the last one are 1
		ratio(543339720, 384227801), ratio(62831853, 20000000), ratio(999999937, 999999929), ratio(123456789, 987654323),
		ratio(1<<29, 387420489), ratio(999999999, 2), ratio(2, 999999999), ratio(500000001, 500000000), ratio(1001, 1000), ratio(1000, 1001),
	}
}

// badRatios are not valid, each for another reason.
func badRatios() []impl.Ratio {
	return []impl.Ratio{
		{}, ratio(0, 1), ratio(1, 0), ratio(-1, 1), ratio(1, -1), ratio(-1, -1), ratio(-3, 2), ratio(3, -2),
		ratio(2, 2), ratio(6, 4), ratio(4, 6), ratio(45, 60), ratio(impl.MaxTerm, impl.MaxTerm), ratio(impl.MaxTerm, 2), ratio(5, impl.MaxTerm),
		ratio(impl.MaxTerm+1, 1), ratio(1, impl.MaxTerm+1), ratio(impl.MaxTerm+1, impl.MaxTerm), ratio(impl.MaxTerm, impl.MaxTerm+1),
		ratio(math.MaxInt64, math.MaxInt64-1), ratio(math.MinInt64, 1), ratio(1, math.MinInt64), ratio(math.MinInt64, math.MinInt64),
		ratio(1<<32+1, 1), ratio(1<<32+1, 1<<32+2),
	}
}

func train(numbers ...int16) impl.Train {
	var t impl.Train
	for i := 0; i < len(numbers); i += 2 {
		t = append(t, impl.Pair{Driver: numbers[i], Driven: numbers[i+1]})
	}
	return t
}

// goodTrains are of 1 to MaxPairs pairs, with the least and the most teeth among them.
func goodTrains() []impl.Train {
	return []impl.Train{
		train(8, 8), train(120, 8), train(8, 120), train(120, 120), train(44, 14), train(10, 20), train(113, 119),
		train(10, 20, 15, 45), train(8, 120, 8, 120), train(120, 8, 120, 8), train(31, 32, 33, 34), train(97, 8, 8, 101),
		train(8, 9, 10, 11, 12, 13), train(60, 8, 60, 8, 60, 8), train(9, 8, 8, 9, 13, 13),
		train(120, 8, 120, 8, 120, 8, 120, 8), train(8, 120, 8, 120, 8, 120, 8, 120), train(120, 119, 120, 119, 120, 119, 120, 119),
		train(120, 113, 109, 107, 103, 101, 97, 89), train(119, 120, 117, 118, 113, 116, 109, 111), train(20, 10, 10, 20, 30, 15, 15, 30),
	}
}

// badTrains are not valid, each for another reason.
func badTrains() []impl.Train {
	return []impl.Train{
		nil, {}, train(0, 0), train(7, 8), train(8, 7), train(121, 120), train(120, 121), train(-8, 8), train(8, -8), train(-8, -8),
		train(math.MinInt16, 8), train(8, math.MaxInt16), train(8, 8, 7, 8), train(8, 8, 8, 121), train(7, 8, 8, 8),
		train(8, 8, 8, 8, 8, 8, 8, 7), train(8, 8, 8, 8, 8, 8, 121, 8), train(8, 8, 8, 8, 8, 8, 8, 8, 8, 8),
		train(8+256, 8), train(slices.Repeat([]int16{8, 9}, 500000)...),
	}
}

func mustTrain(t *testing.T, text string) impl.Train {
	t.Helper()
	list, code := impl.ReadTrain(text)
	if code != impl.OK {
		t.Fatalf("ReadTrain(%q): code %d", text, code)
	}
	return list
}

func mustRatio(t *testing.T, list impl.Train) impl.Ratio {
	t.Helper()
	r, code := impl.RatioOf(list)
	if code != impl.OK {
		t.Fatalf("RatioOf(%v): code %d", list, code)
	}
	return r
}
