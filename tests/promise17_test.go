package tests

import (
	"fmt"
	"math"
	"slices"
	"testing"

	"loop.example/g01278/impl"
)

// checkDo checks one act against a turnstile, and that pulses are counted or lost.
func checkDo(t *testing.T, d impl.Device, a impl.Act) {
	t.Helper()
	want := play(d, acts(a))
	behind, lost, code := impl.DoAct(d, a)
	if !sameDevice(behind, want.device) || lost != want.lost || code != want.code {
		t.Fatalf("DoAct(%v, %v) = %v, %d, %d, want %v, %d, %d", d, a, behind, lost, code, want.device, want.lost, want.code)
	}
	if code == impl.OK && a.Kind <= impl.AcBack {
		checkCounted(t, d, a, behind, lost)
	}
}

// checkCounted checks that all pulses of an act that are not lost are counted.
func checkCounted(t *testing.T, d impl.Device, a impl.Act, behind impl.Device, lost int64) {
	t.Helper()
	counted := a.N - lost
	if a.Kind == impl.AcBack {
		counted = -counted
	}
	shows, _, code := impl.AddTo(d.Stack, d.Shows, counted)
	if shows != behind.Shows || lost < 0 || lost > a.N || code != impl.OK || behind.Tickets != d.Tickets || behind.Preset != d.Preset {
		t.Fatalf("%v with %v shows %v, and has lost %d, but %d more are %v", d, a, behind, lost, counted, shows)
	}
	if lost > 0 && !behind.Stopped || d.Stopped && lost < a.N {
		t.Fatalf("%v with %v becomes %v, and has lost %d", d, a, behind, lost)
	}
}

func turnstileStacks() []impl.Stack {
	return []impl.Stack{{2}, {3}, {7}, {2, 2}, {3, 2}, {2, 3}, {2, 2, 3}, {10, 2}}
}

// TestPromise17All does each act with each device of small stacks.
func TestPromise17All(t *testing.T) {
	for _, s := range turnstileStacks() {
		size := int64(len(allDigits(s)))
		for _, d := range append(allDevices(s, 0), allDevices(s, 5)...) {
			if !impl.ValidDevice(d) {
				t.Fatalf("%v is not valid", d)
			}
			for n := range 3*size + 2 { // up to several whole rounds
				checkDo(t, d, pulse(n))
				checkDo(t, d, pulseBack(n))
			}
			for n := int64(-1); n <= size+1; n++ {
				checkDo(t, d, presetTo(n))
			}
			checkDo(t, d, resetAct())
			checkDo(t, d, ticketAct())
		}
	}
}

// TestPromise17Until counts on until a device is stopped.
func TestPromise17Until(t *testing.T) {
	for _, s := range turnstileStacks() {
		for _, d := range allDevices(s, 3) {
			until, code := impl.PulsesUntilStop(d)
			if d.Preset < 0 {
				if until != 0 || code != impl.ErrNotFound {
					t.Fatalf("PulsesUntilStop(%v) = %d, %d", d, until, code)
				}
				continue
			}
			want, w := int64(0), turnstileOf(d)
			for ; !w.stopped; want++ {
				w.pulses(1, w.up)
			}
			if until != want || code != impl.OK {
				t.Fatalf("PulsesUntilStop(%v) = %d, %d, want %d", d, until, code, want)
			}
		}
	}
}

// TestPromise17Several does many acts one behind the other.
func TestPromise17Several(t *testing.T) {
	stops, errors, losses := 0, 0, 0
	for seed := range uint64(3000) {
		s := turnstileStacks()[seed%8]
		size := int64(len(allDigits(s)))
		devices := allDevices(s, int64(seed%3)*500000)
		d := devices[int(seed/8)%len(devices)]
		list := madeActs(int(seed*7%61), size, seed)
		if seed%5 == 0 && len(list) > 0 {
			list[int(seed/5)%len(list)] = presetTo(size)
		}
		want := play(d, list)
		behind, lost, code := impl.DoActs(d, list)
		if !sameDevice(behind, want.device) || lost != want.lost || code != want.code {
			t.Fatalf("DoActs(%v, %v) = %v, %d, %d, want %v, %d, %d", d, list, behind, lost, code, want.device, want.lost, want.code)
		}
		if want.device.Stopped {
			stops++
		}
		if want.lost > 0 {
			losses++
		}
		if want.code != impl.OK {
			errors++
		}
	}
	if min(stops, losses, errors) < 300 {
		t.Errorf("%d are stopped, %d have lost pulses, and %d have errors", stops, losses, errors)
	}
}

// shortByWords leaves pulses of 0 out, and then joins two acts that follow each other as
// long as there are any to be joined.
func shortByWords(list []impl.Act) []impl.Act {
	list = slices.DeleteFunc(slices.Clone(list), func(a impl.Act) bool { return a.Kind <= impl.AcBack && a.N == 0 })
	for i := 0; i+1 < len(list); {
		a, b := list[i], list[i+1]
		if a.Kind != b.Kind || a.Kind == impl.AcTicket {
			i++
			continue
		}
		if a.Kind == impl.AcPreset {
			a = b
		} else {
			a.N += b.N
		}
		list = slices.Replace(list, i, i+2, a)
	}
	return list
}

// checkShort checks that fewer acts are as told, and do the same with a device.
func checkShort(t *testing.T, list []impl.Act, devices ...impl.Device) {
	t.Helper()
	want := shortByWords(list)
	short, code := impl.ShortActs(list)
	if !slices.Equal(short, want) || code != impl.OK {
		t.Fatalf("ShortActs(%v) = %v, %d, want %v", list, short, code, want)
	}
	for _, d := range devices {
		all, lost, one := impl.DoActs(d, list)
		some, lostToo, two := impl.DoActs(d, short)
		if one == impl.OK && (!sameDevice(all, some) || lost != lostToo || two != impl.OK) {
			t.Fatalf("%v with %v: %v, %d, %d, but with %v: %v, %d, %d", d, list, all, lost, one, short, some, lostToo, two)
		}
	}
	if again, code := impl.ShortActs(short); !slices.Equal(again, short) || code != impl.OK {
		t.Fatalf("ShortActs(%v) = %v, %d", short, again, code)
	}
}

// TestPromise17Short has all lists of few acts, and long ones of many.
func TestPromise17Short(t *testing.T) {
	kinds := acts(pulse(0), pulse(1), pulse(2), pulseBack(0), pulseBack(1), presetTo(-1), presetTo(0), presetTo(2), resetAct(), ticketAct())
	lists := [][]impl.Act{nil}
	devices := []impl.Device{device(impl.Stack{3}, 1, -1), device(impl.Stack{3}, 2, 2), stoppedAt(impl.Stack{3}, 2), device(impl.Stack{2, 2}, 3, 0)}
	for range 4 {
		var longer [][]impl.Act
		for _, list := range lists {
			checkShort(t, list, devices...)
			for _, a := range kinds {
				longer = append(longer, append(slices.Clone(list), a))
			}
		}
		lists = longer
	}
	for _, list := range lists {
		checkShort(t, list, devices[1])
	}
	for seed := range uint64(1000) {
		s := turnstileStacks()[seed%8]
		all := allDevices(s, 0)
		var list []impl.Act
		for _, a := range madeActs(30, int64(len(allDigits(s))), seed) {
			list = append(list, slices.Repeat(acts(a), int(seed%2)+1)...)
		}
		checkShort(t, list, all[int(seed)%len(all)], all[int(seed*7)%len(all)])
	}
}

// TestPromise17ShortByHand has lists of which it is told here what stays.
func TestPromise17ShortByHand(t *testing.T) {
	const most = impl.MaxCount
	one := acts(ticketAct())
	tests := []struct {
		list, want []impl.Act
		code       int64
	}{
		{nil, nil, impl.OK},
		{acts(pulse(2), pulse(0), pulse(3)), acts(pulse(5)), impl.OK},
		{acts(pulse(2), pulseBack(0), pulse(3)), acts(pulse(5)), impl.OK},
		{acts(pulse(2), pulseBack(1), pulse(3)), acts(pulse(2), pulseBack(1), pulse(3)), impl.OK},
		{acts(pulseBack(2), pulse(0), pulseBack(3), pulseBack(0)), acts(pulseBack(5)), impl.OK},
		{acts(pulse(0)), nil, impl.OK},
		{acts(pulse(0), pulseBack(0), pulse(0)), nil, impl.OK},
		{slices.Repeat(acts(pulse(0)), 60), nil, impl.OK},
		{slices.Repeat(acts(pulse(1)), 60), acts(pulse(60)), impl.OK},
		{slices.Repeat(acts(pulse(0)), 61), nil, impl.ErrLimit}, // before any is left out
		{slices.Repeat(acts(pulse(1)), 61), nil, impl.ErrLimit},
		{slices.Repeat(one, 60), slices.Repeat(one, 60), impl.OK},
		{slices.Repeat(one, 61), nil, impl.ErrLimit},
		{acts(presetTo(5), presetTo(6), presetTo(-1), presetTo(7)), acts(presetTo(7)), impl.OK},
		{acts(presetTo(7), presetTo(-1)), acts(presetTo(-1)), impl.OK},
		{acts(presetTo(0), presetTo(0)), acts(presetTo(0)), impl.OK}, // a Preset of 0 stays
		{acts(presetTo(0)), acts(presetTo(0)), impl.OK},
		{acts(presetTo(5), pulse(0), presetTo(6)), acts(presetTo(6)), impl.OK},
		{acts(presetTo(5), pulse(1), presetTo(6)), acts(presetTo(5), pulse(1), presetTo(6)), impl.OK},
		{acts(presetTo(5), resetAct(), presetTo(6)), acts(presetTo(5), resetAct(), presetTo(6)), impl.OK},
		{acts(resetAct(), resetAct(), resetAct()), acts(resetAct()), impl.OK},
		{acts(resetAct(), pulseBack(0), resetAct()), acts(resetAct()), impl.OK},
		{acts(resetAct(), ticketAct(), resetAct()), acts(resetAct(), ticketAct(), resetAct()), impl.OK},
		{acts(ticketAct(), ticketAct()), acts(ticketAct(), ticketAct()), impl.OK}, // each one is printed
		{acts(ticketAct(), pulse(0), ticketAct()), acts(ticketAct(), ticketAct()), impl.OK},
		{acts(pulse(1), ticketAct(), pulse(2)), acts(pulse(1), ticketAct(), pulse(2)), impl.OK},
		{acts(pulse(1), resetAct(), pulse(2), pulse(3)), acts(pulse(1), resetAct(), pulse(5)), impl.OK},
		{acts(pulse(most)), acts(pulse(most)), impl.OK},
		{acts(pulse(most-5), pulse(5)), acts(pulse(most)), impl.OK}, // just MaxCount
		{acts(pulse(most-5), pulse(0), pulse(3), pulse(2)), acts(pulse(most)), impl.OK},
		{acts(pulseBack(1), pulseBack(most-1)), acts(pulseBack(most)), impl.OK},
		{acts(pulse(most), pulse(0)), acts(pulse(most)), impl.OK},
		{acts(pulse(most), pulseBack(1), pulse(1)), acts(pulse(most), pulseBack(1), pulse(1)), impl.OK},
		{acts(pulse(most), ticketAct(), pulse(most)), acts(pulse(most), ticketAct(), pulse(most)), impl.OK},
		{acts(pulse(most), pulse(1)), nil, impl.ErrRange}, // one more
		{acts(pulse(1), pulse(most)), nil, impl.ErrRange},
		{acts(pulseBack(most), pulseBack(1)), nil, impl.ErrRange},
		{acts(pulse(most), pulseBack(0), pulse(1)), nil, impl.ErrRange},
		{acts(pulse(most), pulse(1), resetAct(), pulse(1)), nil, impl.ErrRange},
		{acts(resetAct(), pulse(1), ticketAct(), pulse(most-3), pulse(2), pulse(2)), nil, impl.ErrRange},
		{slices.Repeat(acts(pulse(most)), 60), nil, impl.ErrRange},
		{slices.Repeat(acts(pulse(most)), 61), nil, impl.ErrLimit}, // a limit ahead of a range
		{slices.Repeat(acts(presetTo(most)), 60), acts(presetTo(most)), impl.OK},
	}
	for _, x := range tests {
		if short, code := impl.ShortActs(x.list); !slices.Equal(short, x.want) || code != x.code {
			t.Errorf("ShortActs(%v) = %v, %d, want %v, %d", x.list, short, code, x.want, x.code)
		}
	}
	for _, bad := range badActs() {
		for _, x := range tests { // what is not valid ahead of all else
			for _, at := range []int{0, len(x.list) / 2, len(x.list)} {
				short, code := impl.ShortActs(slices.Insert(slices.Clone(x.list), at, bad))
				if len(short) > 0 || code != impl.ErrInvalid {
					t.Errorf("ShortActs of %v with %v is %v, %d", x.list, bad, short, code)
				}
			}
		}
	}
}

// TestPromise17ByHand has devices of which it is told here what they show, and lose.
func TestPromise17ByHand(t *testing.T) {
	const most, last = impl.MaxCount, impl.MaxCount - 1
	ten, two, eight, six := impl.Stack{10, 10}, impl.Stack{2}, wheels8(), limitStack()
	tests := []struct {
		d       impl.Device
		a       impl.Act
		value   int64
		stopped bool
		lost    int64
	}{
		{device(ten, 0, 5), pulse(8), 5, true, 3},
		{device(ten, 0, 5), pulse(4), 4, false, 0}, // one before the Preset
		{device(ten, 0, 5), pulse(5), 5, true, 0},  // just at it
		{device(ten, 0, 5), pulse(6), 5, true, 1},  // one behind it
		{device(ten, 7, 5), pulseBack(1), 6, false, 0},
		{device(ten, 7, 5), pulseBack(2), 5, true, 0},
		{device(ten, 7, 5), pulseBack(3), 5, true, 1},
		{device(ten, 7, 5), pulse(97), 4, false, 0}, // over a round
		{device(ten, 7, 5), pulse(98), 5, true, 0},
		{device(ten, 7, 5), pulse(500), 5, true, 402},
		{device(ten, 3, 5), pulseBack(97), 6, false, 0},
		{device(ten, 3, 5), pulseBack(98), 5, true, 0},
		{device(ten, 3, 5), pulseBack(500), 5, true, 402},
		{device(ten, 5, 5), pulse(0), 5, false, 0}, // its Preset is shown, but it is not stopped
		{device(ten, 5, 5), pulse(1), 6, false, 0},
		{device(ten, 5, 5), pulse(99), 4, false, 0},
		{device(ten, 5, 5), pulse(100), 5, true, 0},
		{device(ten, 5, 5), pulse(101), 5, true, 1},
		{device(ten, 5, 5), pulseBack(0), 5, false, 0},
		{device(ten, 5, 5), pulseBack(1), 4, false, 0},
		{device(ten, 5, 5), pulseBack(100), 5, true, 0},
		{device(ten, 5, 5), pulseBack(300), 5, true, 200},
		{stoppedAt(ten, 5), pulse(0), 5, true, 0}, // stopped already: all are lost
		{stoppedAt(ten, 5), pulse(1), 5, true, 1},
		{stoppedAt(ten, 5), pulse(300), 5, true, 300},
		{stoppedAt(ten, 5), pulseBack(7), 5, true, 7},
		{stoppedAt(ten, 5), pulse(most), 5, true, most},
		{stoppedAt(ten, 5), pulseBack(most), 5, true, most},
		{device(ten, 7, -1), pulse(300), 7, false, 0}, // several whole rounds without a Preset
		{device(ten, 7, -1), pulseBack(300), 7, false, 0},
		{device(ten, 7, -1), pulse(395), 2, false, 0},
		{device(ten, 7, -1), pulseBack(308), 99, false, 0},
		{device(ten, 99, -1), pulse(1), 0, false, 0},
		{device(ten, 0, -1), pulseBack(1), 99, false, 0},
		{device(ten, 99, 0), pulse(1), 0, true, 0}, // a Preset of 0
		{device(ten, 50, 0), pulse(most), 0, true, most - 50},
		{device(ten, 50, 0), pulseBack(most), 0, true, most - 50},
		{device(ten, 0, 0), pulse(most), 0, true, most - 100},
		{device(ten, 0, 99), pulse(100), 99, true, 1}, // the greatest value
		{device(ten, 0, 99), pulseBack(100), 99, true, 99},
		{device(ten, 98, 99), pulse(2), 99, true, 1},
		{device(two, 0, -1), pulse(most), 0, false, 0}, // one wheel
		{device(two, 1, -1), pulse(most), 1, false, 0},
		{device(two, 1, -1), pulse(last), 0, false, 0},
		{device(two, 0, -1), pulseBack(last), 1, false, 0},
		{device(two, 0, 1), pulse(most), 1, true, last},
		{device(two, 1, 1), pulse(most), 1, true, most - 2},
		{device(two, 1, 1), pulseBack(most), 1, true, most - 2},
		{device(impl.Stack{7}, 3, -1), pulse(most), 4, false, 0},
		{device(impl.Stack{7}, 3, -1), pulseBack(most), 2, false, 0},
		{device(eight, 0, -1), pulse(most), 0, false, 0}, // 8 wheels
		{device(eight, 5, -1), pulse(most), 5, false, 0},
		{device(eight, 5, -1), pulseBack(most), 5, false, 0},
		{device(eight, last, -1), pulse(last), last - 1, false, 0},
		{device(eight, 0, -1), pulse(last), last, false, 0},
		{device(eight, 0, last), pulse(most), last, true, 1},
		{device(eight, 0, last), pulseBack(most), last, true, last},
		{device(eight, 5, 5), pulse(most), 5, true, 0}, // just a whole round
		{device(eight, 5, 5), pulse(last), 4, false, 0},
		{device(eight, 5, 5), pulseBack(most), 5, true, 0},
		{device(eight, 5, 5), pulseBack(last), 6, false, 0},
		{device(eight, last, 0), pulse(most), 0, true, last},
		{device(six, last, last-1), pulse(last), last - 1, true, 0},
		{device(impl.Stack{2, 2, 2, 2, 2, 2, 2, 2}, 200, 7), pulse(most), 7, true, most - 63},
		{device(impl.Stack{2, 2, 2, 2, 2, 2, 2, 2}, 200, -1), pulse(most), 200, false, 0}, // 256 goes into it
		{device(ten, 5, 7), presetTo(5), 5, true, 0},                                      // it is shown already
		{device(ten, 5, 5), presetTo(5), 5, true, 0},
		{stoppedAt(ten, 5), presetTo(5), 5, true, 0},
		{stoppedAt(ten, 5), presetTo(6), 5, false, 0},
		{stoppedAt(ten, 5), presetTo(-1), 5, false, 0},
		{stoppedAt(ten, 0), presetTo(-1), 0, false, 0},
		{device(ten, 0, 5), presetTo(0), 0, true, 0},
		{device(ten, 99, -1), presetTo(99), 99, true, 0},
		{device(ten, 99, -1), presetTo(98), 99, false, 0},
		{device(six, last, -1), presetTo(last), last, true, 0},
		{device(ten, 7, 0), resetAct(), 0, true, 0}, // a reset with the Preset 0
		{device(ten, 0, 0), resetAct(), 0, true, 0},
		{stoppedAt(ten, 0), resetAct(), 0, true, 0},
		{stoppedAt(ten, 5), resetAct(), 0, false, 0},
		{device(ten, 7, -1), resetAct(), 0, false, 0},
		{device(six, last, 99), resetAct(), 0, false, 0},
		{stoppedAt(ten, 5), ticketAct(), 5, true, 0},
		{device(ten, 5, 5), ticketAct(), 5, false, 0},
	}
	for _, x := range tests {
		want := x.d
		want.Shows, _ = impl.DigitsOf(x.d.Stack, x.value)
		want.Stopped = x.stopped
		if x.a.Kind == impl.AcPreset {
			want.Preset = x.a.N
		}
		if x.a.Kind == impl.AcTicket {
			want.Tickets++
		}
		behind, lost, code := impl.DoAct(x.d, x.a)
		if !sameDevice(behind, want) || lost != x.lost || code != impl.OK {
			t.Errorf("DoAct(%v, %v) = %v, %d, %d, want %v, %d", x.d, x.a, behind, lost, code, want, x.lost)
		}
		if x.a.Kind <= impl.AcBack {
			checkCounted(t, x.d, x.a, behind, lost)
		}
		if all, sum, code := impl.DoActs(x.d, acts(x.a)); !sameDevice(all, want) || sum != x.lost || code != impl.OK {
			t.Errorf("DoActs(%v, %v) = %v, %d, %d, want %v, %d", x.d, x.a, all, sum, code, want, x.lost)
		}
	}
}

// TestPromise17Great has great numbers of pulses, which are counted in parts as they are
// at once, and there and back again.
func TestPromise17Great(t *testing.T) {
	for _, s := range []impl.Stack{{2}, {100}, {10, 10}, {60, 60, 24}, wheels8(), limitStack(), {3, 2, 5, 7, 11, 13, 2, 2}} {
		size, _ := impl.SizeOf(s)
		next := numbersFrom(uint64(size))
		for i := range 60 {
			n := (next(1<<30)*1009 + next(1000)) % (impl.MaxCount + 1)
			part := n / 1000 * next(1000)
			d := device(s, (next(1<<30)*1000+next(1000))%size, (next(1<<30)*1000+next(1000))%size)
			if i%3 == 0 {
				d.Preset = -1
			}
			once, lost, code := impl.DoAct(d, pulse(n))
			twice, sum, code2 := impl.DoActs(d, acts(pulse(part), pulse(n-part)))
			if !sameDevice(once, twice) || lost != sum || code != impl.OK || code2 != impl.OK {
				t.Fatalf("%v with %d pulses: %v, %d, and with %d first: %v, %d", d, n, once, lost, part, twice, sum)
			}
			checkCounted(t, d, pulse(n), once, lost)
			back, lostBack, code := impl.DoAct(d, pulseBack(n))
			if code != impl.OK {
				t.Fatalf("%v with %d pulses back: code %d", d, n, code)
			}
			checkCounted(t, d, pulseBack(n), back, lostBack)
			checkUntil(t, d)
			if again, _, _ := impl.DoActs(d, acts(presetTo(-1), pulse(n), pulseBack(n), presetTo(d.Preset))); again.Shows != d.Shows {
				t.Fatalf("%v with %d pulses, there and back, is %v", d, n, again)
			}
		}
	}
}

// checkUntil checks that a device is stopped behind as many pulses as it tells, and not
// behind one less; all that come then are lost.
func checkUntil(t *testing.T, d impl.Device) {
	t.Helper()
	until, code := impl.PulsesUntilStop(d)
	if d.Preset < 0 {
		mustCode(t, fmt.Sprint("PulsesUntilStop of ", d), code, impl.ErrNotFound)
		return
	}
	behind, lost, _ := impl.DoAct(d, pulse(until))
	if !behind.Stopped || lost != 0 || code != impl.OK {
		t.Fatalf("%v is %v behind %d pulses, and has lost %d", d, behind, until, lost)
	}
	if until > 0 {
		if before, lost, _ := impl.DoAct(d, pulse(until-1)); before.Stopped || lost != 0 {
			t.Fatalf("%v is %v behind %d pulses, and has lost %d", d, before, until-1, lost)
		}
	}
	if more, lost, _ := impl.DoActs(d, acts(pulse(until), pulse(7), pulseBack(5))); !sameDevice(more, behind) || lost != 12 {
		t.Fatalf("%v is %v behind %d pulses and some more, and has lost %d", d, more, until, lost)
	}
}

// TestPromise17Lost has sums of lost pulses at the limit.
func TestPromise17Lost(t *testing.T) {
	const most = impl.MaxCount
	ten := impl.Stack{10, 10}
	at := stoppedAt(ten, 5)
	full := withTickets(at, impl.MaxTickets)
	tests := []struct {
		d    impl.Device
		list []impl.Act
		lost int64
		code int64
	}{
		{at, nil, 0, impl.OK},
		{at, acts(pulse(most)), most, impl.OK},
		{at, acts(pulse(most), pulse(0)), most, impl.OK},
		{at, acts(pulse(most-1), pulseBack(1)), most, impl.OK}, // just MaxCount
		{at, acts(pulse(most), pulse(1)), 0, impl.ErrRange},    // one more
		{at, acts(pulseBack(1), pulse(most)), 0, impl.ErrRange},
		{at, acts(pulseBack(most), pulseBack(most)), 0, impl.ErrRange},
		{at, slices.Repeat(acts(pulse(most)), 60), 0, impl.ErrRange},
		{at, slices.Repeat(acts(pulse(most)), 61), 0, impl.ErrLimit},
		{at, slices.Repeat(acts(pulse(most/50)), 50), most, impl.OK},
		{at, append(slices.Repeat(acts(pulse(most/50)), 50), pulse(1)), 0, impl.ErrRange},
		{device(ten, 0, 5), acts(pulse(most), pulse(5)), most, impl.OK}, // 5 are counted
		{device(ten, 0, 5), acts(pulse(most), pulse(6)), 0, impl.ErrRange},
		{device(ten, 0, 5), acts(pulse(most), resetAct(), pulse(10)), most, impl.OK},
		{device(ten, 0, 5), acts(pulse(most), resetAct(), pulse(11)), 0, impl.ErrRange},
		{device(ten, 0, -1), slices.Repeat(acts(pulse(most)), 60), 0, impl.OK}, // none is lost
		{at, acts(presetTo(-1), pulse(most), presetTo(5), pulse(most)), most, impl.OK},
		{at, acts(pulse(most), pulse(1), presetTo(100)), 0, impl.ErrRange},
		{full, acts(pulse(most), pulse(1)), 0, impl.ErrRange},
		{full, acts(pulse(most), pulse(1), ticketAct()), 0, impl.ErrState}, // the error of an act ahead of the sum
		{full, acts(ticketAct(), pulse(most), pulse(1)), 0, impl.ErrState},
		{full, acts(pulse(most), presetTo(100), ticketAct()), 0, impl.ErrRange},
		{full, acts(pulse(most), ticketAct(), presetTo(100)), 0, impl.ErrState}, // of the first act that has one
		{full, acts(presetTo(100), ticketAct()), 0, impl.ErrRange},
		{full, acts(presetTo(99), ticketAct()), 0, impl.ErrState},
		{full, append(slices.Repeat(acts(pulse(0)), 60), ticketAct()), 0, impl.ErrLimit}, // a limit ahead of these
		{at, append(slices.Repeat(acts(pulse(0)), 60), presetTo(100)), 0, impl.ErrLimit},
		{at, append(slices.Repeat(acts(pulse(1)), 59), pulseBack(1)), 60, impl.OK},
	}
	for _, x := range tests {
		behind, lost, code := impl.DoActs(x.d, x.list)
		list, one := impl.JournalOf(x.d, x.list)
		tickets, two := impl.TicketsOf(x.d, x.list)
		if lost != x.lost || code != x.code || one != x.code || two != x.code {
			t.Errorf("%v with %v has lost %d, %d, and the codes %d and %d, want %d, %d", x.d, x.list, lost, code, one, two, x.lost, x.code)
		}
		if x.code != impl.OK && (!sameDevice(behind, impl.Device{}) || len(list) > 0 || len(tickets) > 0) {
			t.Errorf("%v with %v: %v, %v and %v together with the code %d", x.d, x.list, behind, list, tickets, x.code)
		}
		for _, bad := range badActs() { // what is not valid ahead of all else
			for _, at := range []int{0, len(x.list) / 2, len(x.list)} {
				replayRefused(t, x.d, slices.Insert(slices.Clone(x.list), at, bad))
			}
		}
	}
	for _, bad := range badDevices() {
		for _, x := range tests[:20] {
			replayRefused(t, bad, x.list)
		}
	}
}

// replayRefused checks that acts are refused with ErrInvalid.
func replayRefused(t *testing.T, d impl.Device, list []impl.Act) {
	t.Helper()
	behind, lost, one := impl.DoActs(d, list)
	notes, two := impl.JournalOf(d, list)
	tickets, three := impl.TicketsOf(d, list)
	if one != impl.ErrInvalid || two != impl.ErrInvalid || three != impl.ErrInvalid || lost != 0 || !sameDevice(behind, impl.Device{}) || len(notes) > 0 || len(tickets) > 0 {
		d.Stack = d.Stack[:min(len(d.Stack), 9)]
		t.Errorf("%v with %v: %v, %d, %v, %v and the codes %d, %d and %d", d, list, behind, lost, notes, tickets, one, two, three)
	}
}

// TestPromise17Errors checks what DoAct and PulsesUntilStop refuse, and in which order.
func TestPromise17Errors(t *testing.T) {
	const most = impl.MaxCount
	ten := impl.Stack{10, 10}
	full := withTickets(stoppedAt(ten, 5), impl.MaxTickets)
	tests := []struct {
		d    impl.Device
		a    impl.Act
		code int64
	}{
		{device(ten, 5, 7), presetTo(99), impl.OK}, // the greatest value
		{device(ten, 5, 7), presetTo(100), impl.ErrRange},
		{device(ten, 5, 7), presetTo(most), impl.ErrRange},
		{device(ten, 5, 7), presetTo(-1), impl.OK},
		{device(ten, 5, 7), presetTo(0), impl.OK},
		{device(limitStack(), 5, 7), presetTo(most - 1), impl.OK},
		{device(limitStack(), 5, 7), presetTo(most), impl.ErrRange},
		{device(impl.Stack{2}, 0, -1), presetTo(1), impl.OK},
		{device(impl.Stack{2}, 0, -1), presetTo(2), impl.ErrRange},
		{full, presetTo(100), impl.ErrRange},
		{full, ticketAct(), impl.ErrState},
		{full, pulse(most), impl.OK}, // all else is done without tickets
		{full, resetAct(), impl.OK},
		{full, presetTo(5), impl.OK},
		{withTickets(full, impl.MaxTickets-1), ticketAct(), impl.OK},
		{withTickets(full, 0), ticketAct(), impl.OK},
	}
	for _, x := range tests {
		behind, lost, code := impl.DoAct(x.d, x.a)
		mustCode(t, fmt.Sprint("DoAct of ", x.d, x.a), code, x.code)
		if code != impl.OK && (lost != 0 || !sameDevice(behind, impl.Device{})) {
			t.Errorf("DoAct(%v, %v) = %v, %d, %d", x.d, x.a, behind, lost, code)
		}
	}
	for _, d := range []impl.Device{device(ten, 5, 7), full, stoppedAt(limitStack(), 0)} {
		for _, bad := range badActs() {
			actRefused(t, d, bad)
		}
	}
	for _, bad := range badDevices() {
		for _, a := range append(badActs(), pulse(0), pulse(most), pulseBack(1), presetTo(-1), presetTo(100), presetTo(most), resetAct(), ticketAct()) {
			actRefused(t, bad, a)
		}
		until, code := impl.PulsesUntilStop(bad)
		if until != 0 || code != impl.ErrInvalid {
			t.Errorf("PulsesUntilStop of a bad device is %d, %d", until, code)
		}
	}
}

func actRefused(t *testing.T, d impl.Device, a impl.Act) {
	t.Helper()
	behind, lost, code := impl.DoAct(d, a)
	if lost != 0 || code != impl.ErrInvalid || !sameDevice(behind, impl.Device{}) {
		d.Stack = d.Stack[:min(len(d.Stack), 9)]
		t.Errorf("DoAct(%v, %v) = %v, %d, %d", d, a, behind, lost, code)
	}
}

// TestPromise17UntilGreat has stacks of which the whole round is great.
func TestPromise17UntilGreat(t *testing.T) {
	const most, last = impl.MaxCount, impl.MaxCount - 1
	ten, eight := impl.Stack{10, 10}, wheels8()
	tests := []struct {
		d    impl.Device
		want int64
	}{
		{device(ten, 0, 5), 5},
		{device(ten, 4, 5), 1},
		{device(ten, 6, 5), 99},
		{device(ten, 5, 5), 100}, // a whole round
		{stoppedAt(ten, 5), 0},
		{device(ten, 0, 0), 100},
		{stoppedAt(ten, 0), 0},
		{device(ten, 99, 0), 1},
		{device(ten, 0, 99), 99},
		{device(ten, 99, 99), 100},
		{device(impl.Stack{2}, 1, 0), 1},
		{device(impl.Stack{2}, 1, 1), 2},
		{device(eight, 0, last), last},
		{device(eight, last, 0), 1},
		{device(eight, last, last), most},
		{device(eight, 1, 0), last},
		{stoppedAt(eight, last), 0},
	}
	for _, x := range tests {
		if until, code := impl.PulsesUntilStop(x.d); until != x.want || code != impl.OK {
			t.Errorf("PulsesUntilStop(%v) = %d, %d, want %d", x.d, until, code, x.want)
		}
		checkUntil(t, x.d)
	}
	for _, d := range []impl.Device{device(ten, 0, -1), device(ten, 99, -1), device(eight, last, -1), withTickets(device(impl.Stack{2}, 1, -1), impl.MaxTickets)} {
		if until, code := impl.PulsesUntilStop(d); until != 0 || code != impl.ErrNotFound {
			t.Errorf("PulsesUntilStop(%v) = %d, %d", d, until, code)
		}
	}
	if until, code := impl.PulsesUntilStop(device(ten, 0, math.MinInt64)); until != 0 || code != impl.ErrInvalid {
		t.Errorf("PulsesUntilStop with a Preset that is none is %d, %d", until, code)
	}
}
