package tests

import (
	"cmp"
	"math/big"
	"slices"
	"testing"

	"loop.example/g01278/impl"
)

// worthOf returns what the bit of a digit is worth.
func worthOf(digit int) uint64 {
	worth := uint64(1)
	for range digit % 64 {
		worth *= 2
	}
	return worth
}

// photo returns the photo in which each wheel, from the wheel 0 on, may show some
// digits: the sum of what their bits are worth.
func photo(wheels ...[]int) impl.Photo {
	var p impl.Photo
	for wheel, digits := range wheels {
		for _, digit := range digits {
			p[wheel][digit/64] += worthOf(digit)
		}
	}
	return p
}

// only returns a list of some digits.
func only(digits ...int) []int { return digits }

// run returns the digits from first to last.
func run(first, last int) []int {
	var digits []int
	for digit := first; digit <= last; digit++ {
		digits = append(digits, digit)
	}
	return digits
}

// marked reports whether a digit has its bit.
func marked(p impl.Photo, wheel, digit int) bool {
	return p[wheel][digit/64]/worthOf(digit)%2 == 1
}

// inByWords reports whether each wheel may show its digit.
func inByWords(s impl.Stack, p impl.Photo, d impl.Digits) bool {
	for wheel := range s {
		if !marked(p, wheel, int(d[wheel])) {
			return false
		}
	}
	return true
}

// valuesByTrial turns an odometer once through its round, and returns all values
// that are in a photo.
func valuesByTrial(s impl.Stack, p impl.Photo) []int64 {
	var values []int64
	for value, d := range allDigits(s) {
		if inByWords(s, p, d) {
			values = append(values, int64(value))
		}
	}
	return values
}

// allPhotos returns all photos of a stack of few digits.
func allPhotos(s impl.Stack) []impl.Photo {
	list := []impl.Photo{{}}
	for wheel, base := range s {
		var more []impl.Photo
		for _, p := range list {
			for marks := uint64(1); marks < 1<<base; marks++ {
				p[wheel][0] = marks
				more = append(more, p)
			}
		}
		list = more
	}
	return list
}

// madePhoto returns a photo, the same one for the same numbers: each wheel may show
// some digit, and any other one with one chance in so many.
func madePhoto(s impl.Stack, chance, seed uint64) impl.Photo {
	var wheels [][]int
	next := func(end uint64) uint64 {
		seed = seed*6364136223846793005 + 1442695040888963407
		return (seed >> 33) % end
	}
	for _, base := range s {
		sure := int(next(uint64(base)))
		var digits []int
		for digit := range int(base) {
			if digit == sure || next(chance) == 0 {
				digits = append(digits, digit)
			}
		}
		wheels = append(wheels, digits)
	}
	return photo(wheels...)
}

// madeFilm returns n photos, the same ones for the same numbers: what a counter shows
// that goes on by 0 to 3, with some more digits; one in 12 shows anything.
func madeFilm(s impl.Stack, n int, seed uint64) []impl.Photo {
	all := allDigits(s)
	next := func(end uint64) uint64 {
		seed = seed*6364136223846793005 + 1442695040888963407
		return (seed >> 33) % end
	}
	var list []impl.Photo
	at := next(uint64(len(all))/2 + 1)
	for range n {
		p := madePhoto(s, 5, next(1<<30))
		if next(12) > 0 {
			for wheel := range s {
				digit := int(all[at][wheel])
				if !marked(p, wheel, digit) {
					p[wheel][digit/64] += worthOf(digit)
				}
			}
		}
		list = append(list, p)
		at = min(at+next(4), uint64(len(all))-1)
	}
	return list
}

// darkroom finds ways through photos by the values in each, as the document says it.
type darkroom struct {
	lists       [][]int64
	least, most int64
}

func darkroomOf(s impl.Stack, list []impl.Photo, least, most int64) darkroom {
	k := darkroom{least: least, most: most}
	for _, p := range list {
		k.lists = append(k.lists, valuesByTrial(s, p))
	}
	return k
}

// goesOn reports whether one value may come behind another one.
func (k darkroom) goesOn(before, value int64) bool {
	return value-before >= k.least && value-before <= k.most
}

// ways returns all ways, those that come first as lists first.
func (k darkroom) ways() [][]int64 {
	ways := [][]int64{nil}
	for i, values := range k.lists {
		var longer [][]int64
		for _, way := range ways {
			for _, value := range values {
				if i == 0 || k.goesOn(way[i-1], value) {
					longer = append(longer, append(slices.Clone(way), value))
				}
			}
		}
		ways = longer
	}
	return ways
}

// upTo returns for each photo how many ways end with each of its values.
func (k darkroom) upTo() []map[int64]*big.Int {
	var list []map[int64]*big.Int
	for i, values := range k.lists {
		counts := map[int64]*big.Int{}
		for _, value := range values {
			counts[value] = big.NewInt(1)
			if i > 0 {
				counts[value] = new(big.Int)
				for _, before := range k.lists[i-1] {
					if k.goesOn(before, value) {
						counts[value].Add(counts[value], list[i-1][before])
					}
				}
			}
		}
		list = append(list, counts)
	}
	return list
}

// totals returns for each photo how many ways there are up to it.
func (k darkroom) totals() []*big.Int {
	var list []*big.Int
	for _, counts := range k.upTo() {
		sum := new(big.Int)
		for _, count := range counts {
			sum.Add(sum, count)
		}
		list = append(list, sum)
	}
	return list
}

// backward returns the same photos told from the last one on, by what each value is
// less than 0: its ways are the same, told backward.
func (k darkroom) backward() darkroom {
	back := darkroom{least: k.least, most: k.most}
	for _, values := range slices.Backward(k.lists) {
		var list []int64
		for _, value := range slices.Backward(values) {
			list = append(list, -value)
		}
		back.lists = append(back.lists, list)
	}
	return back
}

// onWays returns for each photo all values that some way has.
func (k darkroom) onWays() [][]int64 {
	upTo, from := k.upTo(), k.backward().upTo()
	slices.Reverse(from)
	var list [][]int64
	for i, values := range k.lists {
		list = append(list, slices.DeleteFunc(slices.Clone(values), func(value int64) bool {
			return upTo[i][value].Sign() == 0 || from[i][-value].Sign() == 0
		}))
	}
	return list
}

// trail is a way with its sum.
type trail struct {
	values []int64
	sum    int64
}

func compareTrails(a, b trail) int {
	return cmp.Or(cmp.Compare(a.sum, b.sum), slices.Compare(a.values, b.values))
}

// trailOf returns a way with the sum of the sizes of all differences less usual.
func trailOf(way []int64, usual int64) trail {
	x := trail{values: way}
	for i := 1; i < len(way); i++ {
		off := way[i] - way[i-1] - usual
		if off < 0 {
			off = -off
		}
		x.sum += off
	}
	return x
}

// likeliest finds the likeliest way from the first photo on: for each value the best
// of all ways that end with it, with the whole lists.
func (k darkroom) likeliest(usual int64) (trail, bool) {
	var ends []trail
	for i, values := range k.lists {
		var longer []trail
		for _, value := range values {
			var found []trail
			for _, end := range ends {
				if k.goesOn(end.values[i-1], value) {
					found = append(found, trailOf(append(slices.Clone(end.values), value), usual))
				}
			}
			if i == 0 {
				found = append(found, trail{values: []int64{value}})
			}
			if len(found) > 0 {
				longer = append(longer, slices.MinFunc(found, compareTrails))
			}
		}
		ends = longer
	}
	if len(ends) == 0 {
		return trail{}, false
	}
	return slices.MinFunc(ends, compareTrails), true
}

// surePhotos returns for each photo the one with just the digits of some values.
func surePhotos(s impl.Stack, lists [][]int64) []impl.Photo {
	all := allDigits(s)
	var list []impl.Photo
	for _, values := range lists {
		var p impl.Photo
		for _, value := range values {
			for wheel := range s {
				digit := int(all[value][wheel])
				if !marked(p, wheel, digit) {
					p[wheel][digit/64] += worthOf(digit)
				}
			}
		}
		list = append(list, p)
	}
	return list
}

// wideStacks have wheels with about as many digits as a number has bits.
func wideStacks() []impl.Stack {
	return []impl.Stack{{2}, {63}, {64}, {65}, {66}, {100}, {64, 2}, {65, 2}, {100, 2}, {2, 64}, {2, 65}, {2, 100}, {65, 64}, {3, 100, 2}}
}

// badPhotos are not valid for the stack "10:10", each for another reason.
func badPhotos() []impl.Photo {
	full := impl.Photo{}
	for wheel := range full {
		full[wheel] = impl.Marks{1<<64 - 1, 1<<64 - 1}
	}
	digits := only(1, 7)
	return []impl.Photo{
		{},
		full,
		photo(nil, digits), // a wheel without a digit
		photo(digits, nil),
		photo(only(10), digits), // a digit that is just the base
		photo(digits, only(10)),
		photo(run(0, 10), digits),
		photo(digits, run(0, 10)),
		photo(only(1, 63), digits),
		photo(only(1, 64), digits),
		photo(digits, only(64)),
		photo(digits, only(1, 65)), // as if 65 were 1
		photo(digits, only(127)),
		photo(digits, digits, only(0)), // a wheel that is not there
		photo(digits, digits, only(64)),
		photo(digits, digits, nil, nil, nil, nil, nil, only(0)),
		photo(digits, digits, nil, nil, nil, nil, nil, only(127)),
		photo(nil, digits, digits),
		photo(nil, nil, digits, digits),
	}
}

func mustPhoto(t *testing.T, s impl.Stack, text string) impl.Photo {
	t.Helper()
	p, code := impl.ReadPhoto(s, text)
	if code != impl.OK {
		t.Fatalf("ReadPhoto(%v, %q): code %d", s, text, code)
	}
	return p
}

func mustFilm(t *testing.T, s impl.Stack, texts ...string) []impl.Photo {
	t.Helper()
	var list []impl.Photo
	for _, text := range texts {
		list = append(list, mustPhoto(t, s, text))
	}
	return list
}
