package tests

import (
	"math"
	"slices"
	"sort"
	"testing"

	"loop.example/g01278/impl"
)

// crank turns a motion by one part at a time; its digits are those of an odometer.
type crank struct {
	m    impl.Motion
	o    odometer
	turn int64
}

func newCrank(m impl.Motion) *crank {
	return &crank{m: m, o: odometer{bases: m.Stack}}
}

// on turns the wheel 0 by a part.
func (c *crank) on() {
	c.turn++
	if c.turn%1000 == 0 {
		c.o.up()
	}
}

// parts are told by the words of the document, from the digits of the odometer.
func (c *crank) parts() impl.Parts {
	return partsByWords(c.m, c.o.shows, c.turn%1000)
}

// walkSpan calls visit at each turn of a motion.
func walkSpan(m impl.Motion, visit func(c *crank)) {
	for c := newCrank(m); c.o.rounds == 0; c.on() {
		visit(c)
	}
}

// partsByWords returns the parts for digits, with the wheel 0 some parts beyond its own.
func partsByWords(m impl.Motion, d impl.Digits, beyond int64) impl.Parts {
	p := impl.Parts{int64(d[0])*1000 + beyond}
	for i, j := range m.Joints {
		p[i+1] = int64(d[i+1])*1000 + beyondByWords(j, p[i], int64(m.Stack[i]))
	}
	return p
}

// beyondByWords returns the parts of the next wheel beyond its digit: the greatest
// integer that the document allows, found without a division.
func beyondByWords(j impl.Joint, q, base int64) int64 {
	start := (base-1)*1000 + int64(j.From)
	if j.Kind == impl.JnLate && q < start {
		return 0
	}
	tooMuch := sort.Search(1000, func(n int) bool {
		if j.Kind == impl.JnEven {
			return int64(n)*base > q
		}
		return int64(n)*(1000-int64(j.From)) > (q-start)*1000
	})
	return int64(tooMuch) - 1
}

// nearestByWords returns the digit that is nearest to the parts of a wheel: the
// later one of two that are as near, and 0 for the base.
func nearestByWords(parts, base int64) uint8 {
	best := int64(0)
	for digit := range base + 1 {
		if max(parts-digit*1000, digit*1000-parts) <= max(parts-best*1000, best*1000-parts) {
			best = digit
		}
	}
	return uint8(best % base)
}

// rightByWords tells right digits from parts that may be off: for each wheel the
// digit from which its parts are off by at least -500, and by less than 500.
func rightByWords(m impl.Motion, p impl.Parts) impl.Digits {
	d := impl.Digits{uint8(p[0] / 1000)}
	right := p[0]
	for i, j := range m.Joints {
		f, turns := beyondByWords(j, right, int64(m.Stack[i])), int64(m.Stack[i+1])*1000
		for digit := range int64(m.Stack[i+1]) {
			right = digit*1000 + f
			// The wheel is round: 500 before is the same as the rest of its turns behind.
			if off := (p[i+1] - right + 500 + turns) % turns; off < 1000 {
				d[i+1] = uint8(digit)
				break
			}
		}
	}
	return d
}

func even() impl.Joint { return impl.Joint{Kind: impl.JnEven} }

func late(from int16) impl.Joint { return impl.Joint{Kind: impl.JnLate, From: from} }

func motion(s impl.Stack, joints ...impl.Joint) impl.Motion {
	return impl.Motion{Stack: s, Joints: joints}
}

// smallMotions are walked through as a whole.
func smallMotions() []impl.Motion {
	return []impl.Motion{
		motion(impl.Stack{2}),
		motion(impl.Stack{7}),
		motion(impl.Stack{2, 2}, even()),
		motion(impl.Stack{3, 2}, even()),
		motion(impl.Stack{7, 2}, even()),
		motion(impl.Stack{2, 3}, late(0)),
		motion(impl.Stack{3, 2}, late(1)),
		motion(impl.Stack{2, 3}, late(333)),
		motion(impl.Stack{3, 3}, late(500)),
		motion(impl.Stack{2, 2}, late(998)),
		motion(impl.Stack{2, 3}, late(999)),
		motion(impl.Stack{10, 2}, late(750)),
		motion(impl.Stack{2, 3, 2}, even(), even()),
		motion(impl.Stack{3, 2, 2}, even(), late(0)),
		motion(impl.Stack{3, 2, 2}, late(0), even()),
		motion(impl.Stack{2, 2, 3}, late(0), late(0)),
		motion(impl.Stack{2, 2, 2}, late(999), late(0)),
		motion(impl.Stack{2, 2, 2}, late(500), late(1)),
		motion(impl.Stack{2, 2, 2}, late(999), even()),
		motion(impl.Stack{2, 2, 2, 2}, even(), late(250), even()),
		motion(impl.Stack{2, 2, 2, 2}, late(0), late(0), late(0)),
	}
}

// limitMotion has a span of just MaxTurn.
func limitMotion() impl.Motion {
	return motion(limitStack(), even(), late(0), late(500), late(999), even())
}

// fullMotion has as many wheels as there may be.
func fullMotion() impl.Motion {
	return motion(impl.Stack{10, 2, 9, 2, 100, 3, 5, 2}, late(700), even(), late(0), even(), late(999), late(1), even())
}

// badMotions are not valid, each for another reason.
func badMotions() []impl.Motion {
	list := []impl.Motion{
		{},
		motion(impl.Stack{10, 10}),
		motion(impl.Stack{10, 10}, even(), even()),
		motion(impl.Stack{10}, even()),
		motion(impl.Stack{10, 10}, impl.Joint{Kind: 2}),
		motion(impl.Stack{10, 10}, impl.Joint{Kind: -1}),
		motion(impl.Stack{10, 10}, impl.Joint{Kind: math.MaxInt8}),
		motion(impl.Stack{10, 10}, impl.Joint{Kind: impl.JnEven, From: 1}),
		motion(impl.Stack{10, 10}, impl.Joint{Kind: impl.JnEven, From: -1}),
		motion(impl.Stack{10, 10}, late(-1)),
		motion(impl.Stack{10, 10}, late(1000)),
		motion(impl.Stack{10, 10}, late(math.MinInt16)),
		motion(impl.Stack{10, 10}, late(math.MaxInt16)),
		motion(impl.Stack{10, 10, 10}, late(5), late(1000)),
		motion(impl.Stack{10, 10}, slices.Repeat([]impl.Joint{even()}, 1000000)...),
	}
	for _, s := range badStacks() {
		list = append(list, motion(s, slices.Repeat([]impl.Joint{even()}, max(0, len(s)-1))...))
	}
	return list
}

// badParts are not valid for a motion of the stack "10:10".
func badParts() []impl.Parts {
	return []impl.Parts{
		{-1},
		{10000},
		{0, -1},
		{0, 10000},
		{0, 0, 1},
		{0, 0, 0, 0, 0, 0, 0, 1},
		{0, 0, 0, 0, 0, 0, 0, -1},
		{math.MaxInt64, math.MaxInt64},
		{math.MinInt64, math.MinInt64},
	}
}

// pawl turns a wheel with a ratchet by one part at a time.
type pawl struct {
	gap, turn, passed int64
}

// on turns the wheel forward, by a part.
func (p *pawl) on() {
	p.turn++
	if p.turn%p.gap == 0 {
		p.passed++
	}
}

// move turns the wheel forward, or back until a tooth holds it.
func (p *pawl) move(by int64) {
	for ; by > 0; by-- {
		p.on()
	}
	for ; by < 0 && p.turn%p.gap != 0; by++ {
		p.turn--
	}
}

// allTeeth are all the numbers that divide 1000.
func allTeeth() []int64 {
	return []int64{1, 2, 4, 5, 8, 10, 20, 25, 40, 50, 100, 125, 200, 250, 500, 1000}
}

func mustParts(t *testing.T, m impl.Motion, turn int64) impl.Parts {
	t.Helper()
	p, code := impl.PartsAt(m, turn)
	if code != impl.OK {
		t.Fatalf("PartsAt(%v, %d): code %d", m, turn, code)
	}
	return p
}
