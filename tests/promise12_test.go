package tests

import (
	"fmt"
	"math"
	"math/big"
	"slices"
	"testing"

	"loop.example/g01278/impl"
)

// TestPromise12All lists all ways through a few photos.
func TestPromise12All(t *testing.T) {
	ties, stuck, some := 0, map[int]int{}, 0
	for _, s := range []impl.Stack{{2}, {5}, {2, 3}, {3, 2}, {10}, {2, 3, 4}} {
		for seed := range uint64(150) {
			list := madeFilm(s, 1+int(seed%5), seed*41+uint64(len(s)))
			for _, by := range [][2]int64{{0, 0}, {0, 1}, {1, 1}, {0, 2}, {1, 3}, {2, 5}, {0, 100}} {
				k := darkroomOf(s, list, by[0], by[1])
				ways := k.ways()
				checkFilm(t, s, list, k, ways)
				if len(ways) == 0 {
					stuck[jammedAt(k.totals())]++
				} else {
					some++
				}
				for usual := by[0]; usual <= min(by[1], 6); usual++ {
					if checkLikeliest(t, s, list, k, ways, usual) > 1 {
						ties++
					}
				}
			}
		}
	}
	if ties < 100 || some < 100 || min(stuck[1], stuck[2], stuck[3], stuck[4]) < 5 {
		t.Errorf("%d films have several likeliest ways, %d have some way, and stuck they are at %v", ties, some, stuck)
	}
}

// jammedAt returns the index of the first photo up to which there is no way, or
// -1 if there is a way through all.
func jammedAt(totals []*big.Int) int {
	return slices.IndexFunc(totals, func(total *big.Int) bool { return total.Sign() == 0 })
}

// checkFilm checks what is told of photos against all ways.
func checkFilm(t *testing.T, s impl.Stack, list []impl.Photo, k darkroom, ways [][]int64) {
	t.Helper()
	if n, code := impl.WaysThrough(s, list, k.least, k.most); n != int64(len(ways)) || code != impl.OK {
		t.Fatalf("WaysThrough(%v, %v, %d, %d) = %d, %d, want %d", s, list, k.least, k.most, n, code, len(ways))
	}
	for _, way := range ways[:min(len(ways), 50)] {
		if ok, code := impl.CheckWay(s, list, way, k.least, k.most); !ok || code != impl.OK {
			t.Fatalf("CheckWay(%v, %v, %v, %d, %d) = %v, %d", s, list, way, k.least, k.most, ok, code)
		}
	}
	lists := make([][]int64, len(list))
	for _, way := range ways {
		for i, value := range way {
			lists[i] = append(lists[i], value)
		}
	}
	checkSure(t, s, list, k, lists, jammedAt(k.totals()))
}

// checkSure checks SurePhotos against the values of all ways, and FirstStuck; at is
// the photo that is stuck, or -1.
func checkSure(t *testing.T, s impl.Stack, list []impl.Photo, k darkroom, lists [][]int64, at int) {
	t.Helper()
	sure, code := impl.SurePhotos(s, list, k.least, k.most)
	stuck, codeStuck := impl.FirstStuck(s, list, k.least, k.most)
	if at >= 0 {
		if len(sure) > 0 || code != impl.ErrNotFound || stuck != int64(at) || codeStuck != impl.OK {
			t.Fatalf("%v with %d to %d: sure are %v, %d, and stuck at %d, %d, want %d", list, k.least, k.most, sure, code, stuck, codeStuck, at)
		}
		return
	}
	if want := surePhotos(s, lists); !slices.Equal(sure, want) || code != impl.OK {
		t.Fatalf("SurePhotos(%v, %v, %d, %d) = %v, %d, want %v", s, list, k.least, k.most, sure, code, want)
	}
	if stuck != 0 || codeStuck != impl.ErrNotFound {
		t.Fatalf("FirstStuck(%v, %v, %d, %d) = %d, %d, but there is a way", s, list, k.least, k.most, stuck, codeStuck)
	}
	// Through what is sure there are just as many ways, and no less is sure of them.
	if again, code := impl.SurePhotos(s, sure, k.least, k.most); !slices.Equal(again, sure) || code != impl.OK {
		t.Fatalf("SurePhotos(%v, %v, %d, %d) = %v, %d", s, sure, k.least, k.most, again, code)
	}
	n, code := impl.WaysThrough(s, list, k.least, k.most)
	if m, codeSure := impl.WaysThrough(s, sure, k.least, k.most); code == impl.OK && (m != n || codeSure != code) {
		t.Fatalf("%d ways are through %v, but %d, %d, through what is sure", n, list, m, codeSure)
	}
}

// checkLikeliest checks LikeliestWay against all ways, and returns how many of them
// have the least sum.
func checkLikeliest(t *testing.T, s impl.Stack, list []impl.Photo, k darkroom, ways [][]int64, usual int64) int {
	t.Helper()
	var trails []trail
	for _, way := range ways {
		trails = append(trails, trailOf(way, usual))
	}
	values, sum, code := impl.LikeliestWay(s, list, k.least, k.most, usual)
	if len(trails) == 0 {
		if len(values) > 0 || sum != 0 || code != impl.ErrNotFound {
			t.Fatalf("LikeliestWay(%v, %v, %d, %d, %d) = %v, %d, %d, but there is none", s, list, k.least, k.most, usual, values, sum, code)
		}
		return 0
	}
	want := slices.MinFunc(trails, compareTrails)
	if compareTrails(want, trail{values, sum}) != 0 || code != impl.OK {
		t.Fatalf("LikeliestWay(%v, %v, %d, %d, %d) = %v, %d, %d, want %v", s, list, k.least, k.most, usual, values, sum, code, want)
	}
	return len(slices.DeleteFunc(trails, func(x trail) bool { return x.sum > want.sum }))
}

// TestPromise12Check tries all lists of values, those of other lengths too.
func TestPromise12Check(t *testing.T) {
	s := impl.Stack{2, 3}
	size, _ := impl.SizeOf(s)
	lists := [][]int64{nil}
	for range 4 {
		for _, values := range slices.Clone(lists) {
			for value := int64(-1); value <= size; value++ {
				lists = append(lists, append(slices.Clone(values), value))
			}
		}
		lists = lists[len(lists)-min(len(lists), 4000):]
	}
	lists = append(lists, nil, []int64{0}, []int64{0, 0}, []int64{1, 2}, []int64{1, 2, 3}, []int64{1, 2, 3, 4})
	good := 0
	for seed := range uint64(30) {
		film := madeFilm(s, 1+int(seed%4), seed)
		k := darkroomOf(s, film, int64(seed%3), int64(seed%3+seed%2*2))
		ways := map[string]bool{}
		for _, way := range k.ways() {
			ways[fmt.Sprint(way)] = true
		}
		for _, values := range lists {
			want := ways[fmt.Sprint(values)]
			if want {
				good++
			}
			if ok, code := impl.CheckWay(s, film, values, k.least, k.most); ok != want || code != impl.OK {
				t.Fatalf("CheckWay(%v, %v, %v, %d, %d) = %v, %d", s, film, values, k.least, k.most, ok, code)
			}
		}
	}
	if good < 20 {
		t.Errorf("%d lists are ways", good)
	}
}

// TestPromise12CheckByHand has values that are a way, and such as are none.
func TestPromise12CheckByHand(t *testing.T) {
	s := impl.Stack{10, 10}
	list := mustFilm(t, s, "?:9", "1|2:0", "2:5")
	tests := []struct {
		values      []int64
		least, most int64
		want        bool
	}{
		{[]int64{19, 20, 25}, 0, 8, true},
		{[]int64{19, 20, 25}, 1, 5, true},  // just least, and just most
		{[]int64{19, 20, 25}, 2, 5, false}, // one beyond
		{[]int64{19, 20, 25}, 1, 4, false},
		{[]int64{19, 20}, 0, 8, false}, // not as many
		{[]int64{19, 20, 25, 25}, 0, 8, false},
		{[]int64{19}, 0, 8, false},
		{nil, 0, 8, false},
		{[]int64{}, 0, 8, false},
		{[]int64{9, 20, 25}, 0, 8, false},
		{[]int64{9, 20, 25}, 0, 11, true},
		{[]int64{29, 20, 25}, 0, 99, false}, // less than the one before
		{[]int64{18, 20, 25}, 0, 8, false},  // in no photo
		{[]int64{19, 21, 25}, 0, 8, false},
		{[]int64{19, 20, 26}, 0, 8, false},
		{[]int64{19, 30, 25}, 0, 99, false},
		{[]int64{25, 20, 19}, 0, 8, false},
		{[]int64{119, 120, 125}, 0, 8, false}, // no values of the stack
		{[]int64{-1, 20, 25}, 0, 99, false},
		{[]int64{math.MinInt64, 20, 25}, 0, impl.MaxCount, false},
		{[]int64{19, math.MinInt64, 25}, 0, impl.MaxCount, false},
		{[]int64{19, 20, math.MaxInt64}, 0, impl.MaxCount, false},
		{[]int64{math.MinInt64, math.MaxInt64, math.MinInt64}, 0, impl.MaxCount, false},
	}
	for _, x := range tests {
		if ok, code := impl.CheckWay(s, list, x.values, x.least, x.most); ok != x.want || code != impl.OK {
			t.Errorf("CheckWay of %v with %d to %d is %v, %d", x.values, x.least, x.most, ok, code)
		}
	}
	if ok, code := impl.CheckWay(s, list, make([]int64, 900000), 0, 8); ok || code != impl.OK {
		t.Errorf("CheckWay of many values is %v, %d", ok, code)
	}
}

// TestPromise12Long has up to MaxPhotos photos, with more ways than can be listed.
func TestPromise12Long(t *testing.T) {
	passed, jammed := 0, 0
	for _, s := range []impl.Stack{{2}, {7, 6}, {10, 10}, {64, 2}, {65, 3}, {100, 2}} {
		for seed := range uint64(60) {
			list := madeFilm(s, 1+int(seed%20), seed*19)
			if slices.ContainsFunc(list, func(p impl.Photo) bool { n, _ := impl.ChoicesOf(s, p); return n > 400 }) {
				t.Fatalf("a photo of %v has too many values", s)
			}
			for _, by := range [][2]int64{{0, 3}, {1, 2}, {0, 30}} {
				k := darkroomOf(s, list, by[0], by[1])
				totals := k.totals()
				at := jammedAt(totals)
				if at >= 0 {
					jammed++
				} else {
					passed++
				}
				checkTotals(t, s, list, k, totals)
				checkSure(t, s, list, k, k.onWays(), at)
				checkTrail(t, s, list, k, by[0]+(by[1]-by[0])/2)
			}
		}
	}
	if passed < 100 || jammed < 100 {
		t.Errorf("%d films have a way, and %d are stuck", passed, jammed)
	}
}

// checkTotals checks WaysThrough against how many ways there are up to each photo.
func checkTotals(t *testing.T, s impl.Stack, list []impl.Photo, k darkroom, totals []*big.Int) {
	t.Helper()
	want, wantCode := totals[len(totals)-1], int64(impl.OK)
	if slices.ContainsFunc(totals, func(total *big.Int) bool { return total.Cmp(big.NewInt(1000000000000000)) > 0 }) {
		want, wantCode = new(big.Int), impl.ErrLimit
	}
	if n, code := impl.WaysThrough(s, list, k.least, k.most); big.NewInt(n).Cmp(want) != 0 || code != wantCode {
		t.Fatalf("WaysThrough(%v, %v, %d, %d) = %d, %d, want %v, %d", s, list, k.least, k.most, n, code, want, wantCode)
	}
}

// checkTrail checks LikeliestWay against the best of all ways, found from the first
// photo on.
func checkTrail(t *testing.T, s impl.Stack, list []impl.Photo, k darkroom, usual int64) {
	t.Helper()
	want, ok := k.likeliest(usual)
	wantCode := int64(impl.OK)
	if !ok {
		wantCode = impl.ErrNotFound
	}
	values, sum, code := impl.LikeliestWay(s, list, k.least, k.most, usual)
	if compareTrails(want, trail{values, sum}) != 0 || code != wantCode {
		t.Fatalf("LikeliestWay(%v, %v, %d, %d, %d) = %v, %d, %d, want %v, %d", s, list, k.least, k.most, usual, values, sum, code, want, wantCode)
	}
	if ok, code := impl.CheckWay(s, list, values, k.least, k.most); ok != (wantCode == impl.OK) || code != impl.OK {
		t.Fatalf("CheckWay of the likeliest way %v is %v, %d", values, ok, code)
	}
}

// TestPromise12ByHand has photos whose ways are told here.
func TestPromise12ByHand(t *testing.T) {
	ten := impl.Stack{10, 10}
	tests := []struct {
		s           impl.Stack
		film        []string
		least, most int64
		ways        int64
		sure        []string // none if it is stuck
		stuck       int64    // -1 if it is not
	}{
		{ten, []string{"?:9", "1|2:0", "2:5"}, 0, 8, 1, []string{"1:9", "2:0", "2:5"}, -1},
		{ten, []string{"?:9", "1|2:0", "2:5"}, 0, 3, 0, nil, 2},                              // the last one
		{ten, []string{"?:9", "1|2:0", "2:5"}, 2, 8, 0, nil, 1},                              // 9 and 10 are too near, so are 19 and 20, and 9 and 20 too far
		{ten, []string{"?:9", "1|2:0", "2:5"}, 6, 11, 0, nil, 2},                             // 9 and 20 go on, but not 20 and 25
		{ten, []string{"5:0", "4:0", "6:0"}, 0, 99, 0, nil, 1},                               // the first one that may be
		{ten, []string{"1:0", "2:0", "1:5", "2:0", "2:1"}, 0, 99, 0, nil, 2},                 // one in the middle
		{ten, []string{"1:0", "2:0", "2:0", "2:0", "1:9"}, 0, 99, 0, nil, 4},                 // the last one
		{ten, []string{"3:1|2"}, 0, 0, 2, []string{"3:1|2"}, -1},                             // one photo
		{ten, []string{"3:1"}, 5, 5, 1, []string{"3:1"}, -1},                                 // one value
		{ten, []string{"?:?"}, 0, 8, 100, []string{"?:?"}, -1},                               // all values
		{ten, []string{"?:?", "?:?"}, 0, 0, 100, []string{"?:?", "?:?"}, -1},                 // both 0
		{ten, []string{"1|2:3", "2|3:3", "?:3"}, 0, 0, 1, []string{"2:3", "2:3", "2:3"}, -1}, // likewise
		{ten, []string{"1|2:3", "?:?"}, 7, 7, 2, []string{"1|2:3", "2|3:0"}, -1},             // least is most
		{ten, []string{"?:?", "?:?"}, 99, 99, 1, []string{"0:0", "9:9"}, -1},                 // just far enough
		{ten, []string{"?:?", "?:?"}, 100, 200, 0, nil, 1},                                   // no two values are
		{ten, []string{"?:?", "?:?"}, 0, impl.MaxCount, 5050, []string{"?:?", "?:?"}, -1},    // just MaxCount
		{ten, []string{"?:?", "?:?"}, 1, impl.MaxCount, 4950, []string{"?:?", "?:?"}, -1},    // 99 and 0 are not all, but their digits are shown
		{ten, []string{"0:?", "0:?"}, 9, 9, 1, []string{"0:0", "0:9"}, -1},                   // none of the others goes on
		{ten, []string{"0:?", "0:?"}, 1, 9, 45, []string{"0:0|1|2|3|4|5|6|7|8", "0:1|2|3|4|5|6|7|8|9"}, -1},
		{ten, []string{"9:9", "0:0"}, 0, 8, 0, nil, 1}, // a counter that goes over 0 has no way
		{ten, []string{"0|5:0|5", "0|5:5", "0|5:5"}, 5, 5, 0, nil, 2},
		{ten, []string{"0|5:0|5", "0|5:5", "0|6:0"}, 5, 5, 1, []string{"5:0", "5:5", "6:0"}, -1}, // 0 and 5 do not go on
		{impl.Stack{2}, []string{"?", "?", "?"}, 0, 1, 4, []string{"?", "?", "?"}, -1},
		{impl.Stack{2}, []string{"?", "?", "?"}, 1, 1, 0, nil, 2},
		{impl.Stack{2, 2, 2}, []string{"?:?:?", "?:?:?"}, 4, 4, 4, []string{"0:?:?", "1:?:?"}, -1},
		{impl.Stack{2, 65}, []string{"63|64:?", "?:1", "64:1"}, 1, 1, 0, nil, 2},
		{impl.Stack{65, 2}, []string{"?:63|64", "?:0|63|64", "1:?"}, 1, 1, 2, []string{"0:63|64", "?:0|64", "1:0|1"}, -1},
		{impl.Stack{100}, []string{"0|63|64|99", "0|64|99", "?"}, 0, 1, 7, []string{"0|63|64|99", "0|64|99", "0|1|64|65|99"}, -1},
	}
	for _, x := range tests {
		list := mustFilm(t, x.s, x.film...)
		if n, code := impl.WaysThrough(x.s, list, x.least, x.most); n != x.ways || code != impl.OK {
			t.Errorf("WaysThrough of %v with %d to %d: %d, %d, want %d", x.film, x.least, x.most, n, code, x.ways)
		}
		sure, code := impl.SurePhotos(x.s, list, x.least, x.most)
		at, codeAt := impl.FirstStuck(x.s, list, x.least, x.most)
		if x.sure == nil {
			if len(sure) > 0 || code != impl.ErrNotFound || at != x.stuck || codeAt != impl.OK {
				t.Errorf("%v with %d to %d: sure are %v, %d, and it is stuck at %d, %d, want %d", x.film, x.least, x.most, sure, code, at, codeAt, x.stuck)
			}
		} else if !slices.Equal(sure, mustFilm(t, x.s, x.sure...)) || code != impl.OK || at != 0 || codeAt != impl.ErrNotFound {
			t.Errorf("%v with %d to %d: sure are %v, %d, and it is stuck at %d, %d", x.film, x.least, x.most, sure, code, at, codeAt)
		}
	}
}

// TestPromise12LikeliestByHand has photos whose likeliest way is told here.
func TestPromise12LikeliestByHand(t *testing.T) {
	ten, great := impl.Stack{10, 10}, limitStack()
	last := int64(impl.MaxCount - 1)
	tests := []struct {
		s                  impl.Stack
		film               []string
		least, most, usual int64
		way                []int64
		sum                int64
	}{
		{ten, []string{"?:9", "1|2:0", "2:5"}, 0, 8, 3, []int64{19, 20, 25}, 4},
		{ten, []string{"?:9", "1|2:0", "2:5"}, 0, 8, 0, []int64{19, 20, 25}, 6},  // just least
		{ten, []string{"?:9", "1|2:0", "2:5"}, 0, 8, 8, []int64{19, 20, 25}, 10}, // just most
		{ten, []string{"3:1|2"}, 0, 8, 5, []int64{31}, 0},                        // the first one of one photo
		{ten, []string{"?:?", "?:?"}, 0, 8, 5, []int64{0, 5}, 0},
		{ten, []string{"?:?", "?:?"}, 5, 5, 5, []int64{0, 5}, 0},
		{ten, []string{"?:?", "?:?", "?:?"}, 0, 0, 0, []int64{0, 0, 0}, 0},
		{ten, []string{"0:0", "0:1|3", "0:4"}, 0, 8, 2, []int64{0, 1, 4}, 2}, // 0, 3, 4 has the same sum
		{ten, []string{"0:0|2", "0:5"}, 0, 8, 4, []int64{0, 5}, 2 - 1},       // 2, 5 has it, too
		{ten, []string{"0:0", "0:1|3"}, 0, 8, 2, []int64{0, 1}, 1},           // 0, 3 likewise
		{ten, []string{"0:0", "0:1|3"}, 2, 8, 2, []int64{0, 3}, 1},           // 1 is too near
		{ten, []string{"0:0", "0:1|3", "0:3"}, 0, 8, 1, []int64{0, 1, 3}, 1}, // 0, 3, 3 has the sum 3
		{ten, []string{"0:0", "0:1|3", "0:9"}, 0, 8, 6, []int64{0, 3, 9}, 3}, // 0, 1, 9 has the sum 7
		{ten, []string{"0:0", "0:2|4", "0:2|4", "0:6"}, 0, 8, 2, []int64{0, 2, 4, 6}, 0},
		{ten, []string{"0:0", "0:2|4", "0:2|4", "0:6"}, 0, 8, 3, []int64{0, 2, 4, 6}, 3},
		{ten, []string{"0:0", "0:2|4", "0:2|4", "0:6"}, 0, 8, 1, []int64{0, 2, 4, 6}, 3},
		{ten, []string{"0:0", "0:2|4", "0:2|4", "0:6"}, 0, 8, 0, []int64{0, 2, 2, 6}, 6}, // so have 0, 2, 4, 6 and 0, 4, 4, 6
		{ten, []string{"0:0|1", "0:1", "0:5"}, 0, 4, 1, []int64{0, 1, 5}, 3},
		{ten, []string{"0:0|1", "0:1", "0:5"}, 0, 4, 0, []int64{1, 1, 5}, 4},
		{ten, []string{"0:1", "0:2|9", "?:1"}, 1, 8, 1, []int64{1, 9, 11}, 8}, // 2 is nearer, but goes nowhere
		{ten, []string{"0:5", "9:5"}, 0, 99, 0, []int64{5, 95}, 90},
		{great, []string{"0:0:0:0:0:0", "99:99:99:99:99:99"}, 0, impl.MaxCount, 0, []int64{0, last}, last},
		{great, []string{"0:0:0:0:0:0", "99:99:99:99:99:99"}, 0, impl.MaxCount, impl.MaxCount, []int64{0, last}, 1},
		{great, []string{"0:0:0:0:0:0", "99:99:99:99:99:99"}, last, last, last, []int64{0, last}, 0},
		{great, []string{"0|99:0:0:0:0:0", "0|99:0:0:0:0:1"}, 0, impl.MaxCount, impl.MaxCount / 2, []int64{0, 990000000001}, 490000000001},
	}
	for _, x := range tests {
		way, sum, code := impl.LikeliestWay(x.s, mustFilm(t, x.s, x.film...), x.least, x.most, x.usual)
		if !slices.Equal(way, x.way) || sum != x.sum || code != impl.OK {
			t.Errorf("LikeliestWay of %v with %d to %d, usual %d: %v, %d, %d, want %v, %d", x.film, x.least, x.most, x.usual, way, sum, code, x.way, x.sum)
		}
	}
	// The sum of MaxPhotos - 1 differences may be far beyond MaxCount.
	list := make([]impl.Photo, impl.MaxPhotos)
	for i := range list {
		list[i] = mustPhoto(t, great, "50:0:0:0:0:0")
	}
	if way, sum, code := impl.LikeliestWay(great, list, 0, impl.MaxCount, impl.MaxCount); !slices.Equal(way, slices.Repeat([]int64{impl.MaxCount / 2}, 20)) || sum != 19*impl.MaxCount || code != impl.OK {
		t.Errorf("LikeliestWay of a counter that rests is %v, %d, %d", way, sum, code)
	}
}

// chain returns photos of the stack "100:100": on the wheel 1 each has a digit more
// than the one before, from first on, and on the wheel 0 some digits.
func chain(first, n int, digits ...int) []impl.Photo {
	var list []impl.Photo
	for i := range n {
		list = append(list, photo(digits, only(first+i)))
	}
	return list
}

// TestPromise12MaxWays has just MaxWays ways, and more. From 91 to 109, the digits 0
// to 9 of one photo go on to those of the next one, and 60 goes on to 60 alone.
func TestPromise12MaxWays(t *testing.T) {
	ten, more := run(0, 9), append(run(0, 9), 60)
	tests := []struct {
		name string
		list []impl.Photo
		ways int64 // -1 if there are too many
	}{
		{"14 photos", chain(0, 14, ten...), impl.MaxWays / 10},
		{"just MaxWays", chain(0, 15, ten...), impl.MaxWays},
		{"one more", chain(0, 15, more...), -1},
		{"just MaxWays, and one value each behind", append(chain(0, 15, ten...), chain(15, 5, 0)...), impl.MaxWays},
		{"twice as many", append(chain(0, 15, ten...), chain(15, 1, 0, 1)...), -1},
		{"twice as many, and then one value each", append(append(chain(0, 15, ten...), chain(15, 1, 0, 1)...), chain(16, 4, 0)...), -1},
		{"just MaxWays ahead of a photo that is stuck", append(chain(0, 15, ten...), chain(0, 1, 0)...), 0},
		{"one more ahead of a photo that is stuck", append(chain(0, 15, more...), chain(0, 1, 0)...), -1},
		{"just MaxWays ahead of two that are stuck", append(chain(0, 15, ten...), chain(0, 2, 0)...), 0},
		{"one more ahead of a photo with one way", append(chain(0, 15, more...), chain(15, 1, 60)...), -1},
		{"less ahead of a photo with one way", append(chain(0, 14, more...), chain(14, 1, 60)...), 1},
		{"a tenth and one, and then one value each", append(chain(0, 14, more...), chain(14, 6, 0, 60)...), impl.MaxWays/10 + 1},
		{"20 photos", chain(0, 20, ten...), -1},
		{"20 photos with one value", chain(0, 20, 5), 1},
	}
	for _, x := range tests {
		s := impl.Stack{100, 100}
		want, wantCode := x.ways, int64(impl.OK)
		if x.ways < 0 {
			want, wantCode = 0, impl.ErrLimit
		}
		if n, code := impl.WaysThrough(s, x.list, 91, 109); n != want || code != wantCode {
			t.Errorf("%s: WaysThrough is %d, %d, want %d, %d", x.name, n, code, want, wantCode)
		}
		k := darkroomOf(s, x.list, 91, 109)
		totals := k.totals()
		checkTotals(t, s, x.list, k, totals)
		// That there are many ways matters to WaysThrough alone.
		checkSure(t, s, x.list, k, k.onWays(), jammedAt(totals))
		checkTrail(t, s, x.list, k, 100)
	}
}

// TestPromise12ManyWays has so many ways that their number goes far beyond 64 bits.
func TestPromise12ManyWays(t *testing.T) {
	s := impl.Stack{64, 4, 20}
	for n := 1; n <= impl.MaxPhotos; n++ {
		var list []impl.Photo
		for i := range n { // 256 values each, all of which go on to all of the next one
			list = append(list, photo(run(0, 63), run(0, 3), only(i)))
		}
		want, wantCode := int64(1)<<(8*min(n, 6)), int64(impl.OK)
		if n > 6 {
			want, wantCode = 0, impl.ErrLimit
		}
		if ways, code := impl.WaysThrough(s, list, 0, impl.MaxCount); ways != want || code != wantCode {
			t.Errorf("WaysThrough %d photos is %d, %d, want %d, %d", n, ways, code, want, wantCode)
		}
		sure, code := impl.SurePhotos(s, list, 0, impl.MaxCount)
		if !slices.Equal(sure, list) || code != impl.OK {
			t.Errorf("SurePhotos of %d photos are %v, %d", n, sure, code)
		}
	}
	full := impl.Stack{100, 4}
	list := slices.Repeat([]impl.Photo{photo(run(0, 99), run(0, 3))}, impl.MaxPhotos)
	ways, code := impl.WaysThrough(full, list, 0, impl.MaxCount)
	mustCode(t, "WaysThrough MaxPhotos photos with MaxChoices values", code, impl.ErrLimit)
	if ways != 0 {
		t.Errorf("WaysThrough MaxPhotos photos with MaxChoices values is %d", ways)
	}
	if n, code := impl.WaysThrough(full, list, 21, 21); n != 1 || code != impl.OK { // 19 times 21 is 399
		t.Errorf("WaysThrough with 21 each is %d, %d", n, code)
	}
	if way, sum, code := impl.LikeliestWay(full, list, 0, impl.MaxCount, 21); way[0] != 0 || way[19] != 399 || sum != 0 || code != impl.OK {
		t.Errorf("LikeliestWay with 21 each is %v, %d, %d", way, sum, code)
	}
	if n, code := impl.WaysThrough(full, list, 0, 0); n != 400 || code != impl.OK {
		t.Errorf("WaysThrough a counter that rests is %d, %d", n, code)
	}
}

// filmCodes returns the codes of all functions with photos in order, and checks that
// nothing else comes with a code.
func filmCodes(t *testing.T, s impl.Stack, list []impl.Photo, least, most, usual int64) [5]int64 {
	t.Helper()
	ways, one := impl.WaysThrough(s, list, least, most)
	ok, two := impl.CheckWay(s, list, make([]int64, len(list)), least, most)
	way, sum, three := impl.LikeliestWay(s, list, least, most, usual)
	sure, four := impl.SurePhotos(s, list, least, most)
	at, five := impl.FirstStuck(s, list, least, most)
	if one != impl.OK && ways != 0 || two != impl.OK && ok || three != impl.OK && (len(way) > 0 || sum != 0) || four != impl.OK && len(sure) > 0 || five != impl.OK && at != 0 {
		t.Errorf("%v with %d to %d: %d, %v, %v, %d, %v, %d with codes", list[:min(len(list), 9)], least, most, ways, ok, way, sum, sure, at)
	}
	return [5]int64{one, two, three, four, five}
}

// TestPromise12Errors checks what is refused, and in which order.
func TestPromise12Errors(t *testing.T) {
	s, most := impl.Stack{100, 100}, int64(impl.MaxCount)
	full := photo(run(0, 99), run(0, 3)) // just MaxChoices values
	over := photo(run(0, 66), run(0, 5))
	same := func(code int64) [5]int64 { return [5]int64{code, code, code, code, code} }
	found := [5]int64{impl.OK, impl.OK, impl.OK, impl.OK, impl.ErrNotFound}
	none := [5]int64{impl.OK, impl.OK, impl.ErrNotFound, impl.ErrNotFound, impl.OK}
	usualOff := [5]int64{impl.OK, impl.OK, impl.ErrRange, impl.OK, impl.ErrNotFound}
	overOff := [5]int64{impl.ErrLimit, impl.ErrLimit, impl.ErrRange, impl.ErrLimit, impl.ErrLimit}
	stuckOff := [5]int64{impl.OK, impl.OK, impl.ErrRange, impl.ErrNotFound, impl.OK}
	high := chain(50, 1, 0)
	tests := []struct {
		name               string
		list               []impl.Photo
		least, most, usual int64
		want               [5]int64
	}{
		{"one photo", chain(0, 1, 0), 0, 8, 4, found},
		{"MaxPhotos photos", chain(0, 20, 0), 0, 100, 4, found},
		{"one photo more", chain(0, 21, 0), 0, 100, 4, same(impl.ErrRange)},
		{"an empty list", []impl.Photo{}, 0, 8, 4, same(impl.ErrRange)},
		{"no photo", nil, 0, 8, 4, same(impl.ErrRange)},
		{"many photos", slices.Repeat(chain(0, 1, 0), 50000), 0, 8, 4, same(impl.ErrRange)},
		{"both 0", slices.Repeat(chain(0, 1, 0), 3), 0, 0, 0, found},
		{"both MaxCount", chain(0, 1, 0), most, most, most, found},
		{"most of just MaxCount", chain(0, 3, 0), 0, most, 0, found},
		{"one more", chain(0, 3, 0), 0, most + 1, 0, same(impl.ErrRange)},
		{"both one more", chain(0, 3, 0), most + 1, most + 1, most + 1, same(impl.ErrRange)},
		{"a least of -1", chain(0, 3, 0), -1, 100, 0, same(impl.ErrRange)},
		{"a least of -1 alone", chain(0, 3, 0), -1, 100, -1, same(impl.ErrRange)},
		{"both -1", chain(0, 3, 0), -1, -1, -1, same(impl.ErrRange)},
		{"a least greater than most", chain(0, 3, 0), 101, 100, 100, same(impl.ErrRange)},
		{"a least greater than most", chain(0, 3, 0), 101, 100, 101, same(impl.ErrRange)},
		{"a least far greater", chain(0, 3, 0), math.MaxInt64, math.MinInt64, 0, same(impl.ErrRange)},
		{"a far lesser least", chain(0, 3, 0), math.MinInt64, math.MaxInt64, 0, same(impl.ErrRange)},
		{"a far greater most", chain(0, 3, 0), 0, math.MaxInt64, 0, same(impl.ErrRange)},
		{"a most of more bits", chain(0, 3, 0), 0, 1 << 62, 0, same(impl.ErrRange)},
		{"usual just least", chain(0, 3, 0), 50, 150, 50, found},
		{"usual just most", chain(0, 3, 0), 50, 150, 150, found},
		{"usual one less", chain(0, 3, 0), 50, 150, 49, usualOff},
		{"usual one more", chain(0, 3, 0), 50, 150, 151, usualOff},
		{"usual far less", chain(0, 3, 0), 0, 150, math.MinInt64, usualOff},
		{"usual far more", chain(0, 3, 0), 0, most, math.MaxInt64, usualOff},
		{"usual of -1", chain(0, 3, 0), 0, 150, -1, usualOff},
		{"just MaxChoices values", []impl.Photo{full, full}, 0, 8, 4, found},
		{"more values", []impl.Photo{over}, 0, 8, 4, same(impl.ErrLimit)},
		{"more values in the first one", []impl.Photo{over, full, full}, 0, 8, 4, same(impl.ErrLimit)},
		{"more values in a middle one", []impl.Photo{full, over, full}, 0, 8, 4, same(impl.ErrLimit)},
		{"more values in the last one", []impl.Photo{full, full, over}, 0, 8, 4, same(impl.ErrLimit)},
		{"no way ahead of more values", append(append(slices.Clone(high), chain(0, 1, 0)...), over), 0, 8, 4, same(impl.ErrLimit)},
		{"a range ahead of more values", []impl.Photo{over, over}, 0, most + 1, 4, same(impl.ErrRange)},
		{"too many photos ahead of more values", slices.Repeat([]impl.Photo{over}, 21), 0, 8, 4, same(impl.ErrRange)},
		{"usual ahead of more values", []impl.Photo{over}, 0, 8, 9, overOff},
		{"no way", append(slices.Clone(high), chain(0, 1, 0)...), 0, 8, 4, none},
		{"usual ahead of no way", append(slices.Clone(high), chain(0, 1, 0)...), 0, 8, 9, stuckOff},
	}
	for _, x := range tests {
		if codes := filmCodes(t, s, x.list, x.least, x.most, x.usual); codes != x.want {
			t.Errorf("%s: codes %v, want %v", x.name, codes, x.want)
		}
		refusedFilm(t, x.list, x.least, x.most, x.usual)
	}
}

// refusedFilm checks that what is not valid comes ahead of all other errors.
func refusedFilm(t *testing.T, list []impl.Photo, least, most, usual int64) {
	t.Helper()
	invalid := [5]int64{impl.ErrInvalid, impl.ErrInvalid, impl.ErrInvalid, impl.ErrInvalid, impl.ErrInvalid}
	if len(list) > 100 {
		return
	}
	for i, bad := range badStacks() {
		if codes := filmCodes(t, bad, list, least, most, usual); codes != invalid {
			t.Errorf("the bad stack %d: codes %v", i, codes)
		}
	}
	s := impl.Stack{100, 100}
	digits := only(1, 7)
	for _, bad := range []impl.Photo{{}, badPhotos()[1], photo(digits), photo(digits, only(100)), photo(only(127), digits), photo(digits, digits, only(0))} {
		for at := range len(list) + 1 {
			if codes := filmCodes(t, s, slices.Insert(slices.Clone(list), at, bad), least, most, usual); codes != invalid {
				t.Errorf("a bad photo at %d: codes %v", at, codes)
			}
		}
	}
}
