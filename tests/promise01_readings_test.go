package tests

import (
	"fmt"
	"math"
	"slices"
	"strings"
	"testing"

	"loop.example/g01278/impl"
)

// photoInput has an argument for every parameter of chapter 5.
type photoInput struct {
	s                  impl.Stack
	p, q               impl.Photo
	d                  impl.Digits
	m, n               int64
	may                bool
	list               []impl.Photo
	values             []int64
	least, most, usual int64
	text               string
}

func (x photoInput) String() string {
	return fmt.Sprint(x.s[:min(len(x.s), 9)], x.p, x.q, x.d, x.m, x.n, x.may, x.list[:min(len(x.list), 9)], x.values[:min(len(x.values), 9)], x.least, x.most, x.usual, short(x.text))
}

func photoCalls() []call[photoInput] {
	return []call[photoInput]{
		{"ValidPhoto", false, func(x photoInput) []any { return results(impl.ValidPhoto(x.s, x.p)) }},
		{"PhotoOf", true, func(x photoInput) []any { a, c := impl.PhotoOf(x.s, x.d); return results(a, c) }},
		{"BlankPhoto", true, func(x photoInput) []any { a, c := impl.BlankPhoto(x.s); return results(a, c) }},
		{"HasDigit", false, func(x photoInput) []any { return results(impl.HasDigit(x.p, x.m, x.n)) }},
		{"WithDigit", true, func(x photoInput) []any { a, c := impl.WithDigit(x.s, x.p, x.m, x.n, x.may); return results(a, c) }},
		{"ChoicesOf", true, func(x photoInput) []any { a, c := impl.ChoicesOf(x.s, x.p); return results(a, c) }},
		{"Shows", true, func(x photoInput) []any { a, c := impl.Shows(x.s, x.p, x.d); return results(a, c) }},
		{"LeastIn", true, func(x photoInput) []any { a, c := impl.LeastIn(x.s, x.p); return results(a, c) }},
		{"NextIn", true, func(x photoInput) []any { a, c := impl.NextIn(x.s, x.p, x.m); return results(a, c) }},
		{"CountIn", true, func(x photoInput) []any { a, c := impl.CountIn(x.s, x.p, x.m, x.n); return results(a, c) }},
		{"ValuesIn", true, func(x photoInput) []any { a, c := impl.ValuesIn(x.s, x.p); return results(a, c) }},
		{"MeetPhotos", true, func(x photoInput) []any { a, c := impl.MeetPhotos(x.s, x.p, x.q); return results(a, c) }},
		{"JoinPhotos", true, func(x photoInput) []any { a, c := impl.JoinPhotos(x.s, x.p, x.q); return results(a, c) }},
		{"WaysThrough", true, func(x photoInput) []any { a, c := impl.WaysThrough(x.s, x.list, x.least, x.most); return results(a, c) }},
		{"CheckWay", true, func(x photoInput) []any {
			a, c := impl.CheckWay(x.s, x.list, x.values, x.least, x.most)
			return results(a, c)
		}},
		{"LikeliestWay", true, func(x photoInput) []any {
			a, b, c := impl.LikeliestWay(x.s, x.list, x.least, x.most, x.usual)
			return results(a, b, c)
		}},
		{"SurePhotos", true, func(x photoInput) []any { a, c := impl.SurePhotos(x.s, x.list, x.least, x.most); return results(a, c) }},
		{"FirstStuck", true, func(x photoInput) []any { a, c := impl.FirstStuck(x.s, x.list, x.least, x.most); return results(a, c) }},
		{"PhotoText", false, func(x photoInput) []any { return results(impl.PhotoText(x.s, x.p)) }},
		{"ReadPhoto", true, func(x photoInput) []any { a, c := impl.ReadPhoto(x.s, x.text); return results(a, c) }},
	}
}

// photoInputs has valid and invalid arguments of every kind, mixed.
func photoInputs() []photoInput {
	ten, wide := impl.Stack{10, 10}, impl.Stack{100, 65}
	stacks := []impl.Stack{ten, ten, ten, wide, {2, 3, 4}, limitStack(), nil, {10, 1}, {100, 100, 100, 100, 100, 100, 2}, slices.Repeat(impl.Stack{2}, 9)}
	photos := append(badPhotos(), photo(only(5), only(2)), photo(run(0, 9), only(1, 7)), photo(only(0, 63, 64, 99), only(64)), photo(run(0, 99), run(0, 4)),
		photo(only(0, 1), only(0, 1, 2), only(3)), photo(run(0, 99), run(0, 99), run(0, 99), run(0, 99), run(0, 99), run(0, 99)))
	lists := [][]impl.Photo{nil, {}, {photo(only(9), run(0, 9)), photo(only(0), only(1, 2)), photo(only(5), only(2))}, {photo(only(0), only(9)), photo(only(9), only(0))},
		chain(0, 20, 5), chain(0, 21, 5), chain(0, 10, run(0, 9)...), {photo(run(0, 66), run(0, 5))}}
	for i := range uint64(9) {
		lists = append(lists, madeFilm(ten, int(i*2+1), i), madeFilm(wide, int(i)+1, i), append(madeFilm(ten, 3, i), badPhotos()[i]))
	}
	digits := []impl.Digits{{}, {5, 2}, {9, 9}, {0, 1}, {10, 5}, {1, 1, 1}, {255}, {99, 64}}
	numbers := []int64{0, 1, 5, 9, 10, 25, 63, 64, 99, 127, 128, -1, 7, 8, impl.MaxCount, impl.MaxCount + 1, math.MaxInt64, math.MinInt64, 1 << 32}
	values := [][]int64{nil, {}, {5}, {19, 20, 25}, {19, 20}, {-1, math.MaxInt64, math.MinInt64}, make([]int64, 40)}
	paces := [][3]int64{{0, 8, 3}, {0, 0, 0}, {1, 100, 1}, {91, 109, 100}, {0, impl.MaxCount, 5}, {3, 2, 3}, {-1, 5, 0}, {0, impl.MaxCount + 1, 0}, {2, 5, 6}, {math.MinInt64, math.MaxInt64, 0}, {0, 1000, 20}}
	texts := []string{"", "1|7:?", "2:5", "?:?", "1:2:3", "64:0|99", "x", ":", "2|1:0", "9\xff"}
	var inputs []photoInput
	for i, list := range lists {
		for j, p := range photos {
			sum := i*7 + j*5
			by := paces[(sum+i)%len(paces)]
			inputs = append(inputs, photoInput{
				s: stacks[(i*3+j)%len(stacks)], p: p, q: photos[(sum+3)%len(photos)], d: digits[sum%len(digits)],
				m: numbers[(sum+j)%len(numbers)], n: numbers[(sum*3+i)%len(numbers)], may: sum%2 == 0,
				list: list, values: values[sum%len(values)], least: by[0], most: by[1], usual: by[2], text: texts[(i+j*3)%len(texts)],
			})
		}
	}
	return inputs
}

// guardPhotos puts the slices of an input into longer ones, whose other elements are
// told too.
func guardPhotos(x *photoInput) []any {
	all := make([]any, 3)
	x.s, all[0] = inLonger(x.s, 17)
	x.list, all[1] = inLonger(x.list, photo(only(17), only(18)))
	x.values, all[2] = inLonger(x.values, 19)
	return all
}

// TestPromise1Photos checks that every function of chapter 5 returns, twice the same,
// modifies no argument, and has zero values together with a code.
func TestPromise1Photos(t *testing.T) {
	checkCalls(t, photoCalls(), photoInputs(), guardPhotos)
}

// filmNames are the functions with photos in order.
func filmNames() []string {
	return []string{"WaysThrough", "CheckWay", "LikeliestWay", "SurePhotos", "FirstStuck"}
}

// TestPromise1BadPhotos checks that each function of chapter 5 refuses what is not
// valid ahead of every other error, and that those without a code return nothing.
func TestPromise1BadPhotos(t *testing.T) {
	s := impl.Stack{10, 10}
	p, list := mustPhoto(t, s, "1|7:?"), mustFilm(t, s, "?:9", "1|2:0", "2:5")
	goods := []photoInput{
		{s: s, p: p, q: p, d: impl.Digits{5, 2}, m: 1, n: 7, list: list, most: 8, usual: 3, text: "?:?"},
		{s: s, p: p, q: mustPhoto(t, s, "3:?"), m: -1, n: 100, may: true, list: slices.Repeat(list, 8), most: -1, text: "x"},
		{s: s, p: p, q: p, m: math.MinInt64, n: math.MaxInt64, list: list[:1], least: 5, most: 2, usual: 9},
	}
	withP := []string{"ValidPhoto", "WithDigit", "ChoicesOf", "Shows", "LeastIn", "NextIn", "CountIn", "ValuesIn", "MeetPhotos", "JoinPhotos", "PhotoText"}
	withStack := append(append([]string{"PhotoOf", "BlankPhoto", "ReadPhoto"}, withP...), filmNames()...)
	for _, good := range goods {
		for _, bad := range badStacks() {
			x := good
			x.s = bad
			checkRefused(t, photoCalls(), x, withStack...)
			x.list = nil
			checkRefused(t, photoCalls(), x, withStack...)
		}
		for _, bad := range badPhotos() {
			x := good
			x.p = bad
			checkRefused(t, photoCalls(), x, withP...)
			x.p, x.q = good.p, bad
			checkRefused(t, photoCalls(), x, "MeetPhotos", "JoinPhotos")
			for at := range len(good.list) + 1 {
				x.list = slices.Insert(slices.Clone(good.list), at, bad)
				checkRefused(t, photoCalls(), x, filmNames()...)
			}
		}
		for _, bad := range []impl.Digits{{10}, {0, 10}, {0, 0, 1}, {0, 0, 0, 0, 0, 0, 0, 1}, {255, 255}} {
			x := good
			x.d = bad
			checkRefused(t, photoCalls(), x, "PhotoOf", "Shows")
		}
	}
}

// TestPromise1ManyPhotos checks that lists of many elements are gone through.
func TestPromise1ManyPhotos(t *testing.T) {
	s := impl.Stack{10, 10}
	p := mustPhoto(t, s, "1|7:?")
	x := photoInput{s: s, p: p, q: p, list: slices.Repeat([]impl.Photo{p}, 60000), values: make([]int64, 30000), most: 8, text: strings.Repeat("1|", 10000)}
	for _, c := range photoCalls() {
		list := c.run(x)
		if slices.Contains(filmNames(), c.name) {
			mustCode(t, c.name+" of many photos", list[len(list)-1].(int64), impl.ErrRange)
		}
		checkZeros(t, c, x, list)
	}
	x.list[59999][1] = impl.Marks{}
	checkRefused(t, photoCalls(), x, filmNames()...)
}

// TestPromise1NewPhotos checks that what is returned shares no memory, neither with
// what other calls return, nor with an argument.
func TestPromise1NewPhotos(t *testing.T) {
	s := impl.Stack{10, 10}
	list := mustFilm(t, s, "?:9", "1|2:0", "2:5")
	rest := mustFilm(t, s, "2:5", "2:5", "2:5") // photos that are the same
	lists := map[string]func() []int64{
		"ValuesIn":     func() []int64 { values, _ := impl.ValuesIn(s, list[0]); return values },
		"LikeliestWay": func() []int64 { way, _, _ := impl.LikeliestWay(s, list, 0, 8, 3); return way },
		"at rest":      func() []int64 { way, _, _ := impl.LikeliestWay(s, rest, 0, 8, 3); return way },
	}
	for name, run := range lists {
		one, two := run(), run()
		want := slices.Clone(one)
		spoil(one, 77)
		if again := run(); len(want) == 0 || !slices.Equal(two, want) || !slices.Equal(again, want) {
			t.Errorf("lists of %s share memory: %v, %v, want %v", name, two, again, want)
		}
	}
	for _, film := range [][]impl.Photo{list, rest, list[:1]} {
		before := slices.Clone(film)
		one, _ := impl.SurePhotos(s, film, 0, 8)
		two, _ := impl.SurePhotos(s, film, 0, 8)
		want := slices.Clone(one)
		spoil(one, photo(only(7), only(7)))
		if len(want) != len(film) || !slices.Equal(two, want) || !slices.Equal(film, before) {
			t.Errorf("sure photos share memory: %v, %v, want %v", film, two, want)
		}
	}
}

// TestPromise1EmptyPhotos checks that nil and empty are equivalent.
func TestPromise1EmptyPhotos(t *testing.T) {
	s := impl.Stack{10, 10}
	film := mustFilm(t, s, "?:9", "1|2:0", "2:5")
	for _, c := range photoCalls() {
		none := c.run(photoInput{s: s, list: nil, values: nil, most: 8})
		empty := c.run(photoInput{s: s, list: []impl.Photo{}, values: []int64{}, most: 8})
		if fmt.Sprint(none) != fmt.Sprint(empty) {
			t.Errorf("%s tells nil from empty: %v and %v", c.name, none, empty)
		}
	}
	for _, values := range [][]int64{nil, {}} {
		if ok, code := impl.CheckWay(s, film, values, 0, 8); ok || code != impl.OK {
			t.Errorf("CheckWay of no values is %v, %d", ok, code)
		}
	}
}
