package tests

import (
	"math"
	"math/big"
	"slices"
	"testing"

	"loop.example/g01278/impl"
)

func act(kind int8, n int64) impl.Act { return impl.Act{Kind: kind, N: n} }

func pulse(n int64) impl.Act { return act(impl.AcPulse, n) }

func pulseBack(n int64) impl.Act { return act(impl.AcBack, n) }

func presetTo(n int64) impl.Act { return act(impl.AcPreset, n) }

func resetAct() impl.Act { return act(impl.AcReset, 0) }

func ticketAct() impl.Act { return act(impl.AcTicket, 0) }

// acts returns a list of acts; without any it is nil.
func acts(list ...impl.Act) []impl.Act { return list }

func ticket(number int64, shows impl.Digits, check uint16) impl.Ticket {
	return impl.Ticket{Number: number, Shows: shows, Check: check}
}

func note(a impl.Act, shows impl.Digits, lost int64) impl.Note {
	return impl.Note{Act: a, Shows: shows, Lost: lost}
}

// turnstile is a device that gets one pulse at a time, and counts it with an odometer,
// so that it shares no arithmetic with the package.
type turnstile struct {
	odometer
	all     []impl.Digits // what it shows in one round
	preset  int64
	stopped bool
	tickets int64
}

// turnstileOf returns what a valid device does, with a stack of few values.
func turnstileOf(d impl.Device) *turnstile {
	return &turnstile{odometer: odometer{bases: d.Stack, shows: d.Shows}, all: allDigits(d.Stack), preset: d.Preset, stopped: d.Stopped, tickets: d.Tickets}
}

func (w *turnstile) device() impl.Device {
	return impl.Device{Stack: w.bases, Shows: w.shows, Preset: w.preset, Stopped: w.stopped, Tickets: w.tickets}
}

func (w *turnstile) showsPreset() bool {
	return w.preset >= 0 && w.shows == w.all[w.preset]
}

// pulses gets n pulses, and returns how many are lost.
func (w *turnstile) pulses(n int64, step func() int64) int64 {
	lost := int64(0)
	for range n {
		if w.stopped {
			lost++
			continue
		}
		step()
		w.stopped = w.showsPreset()
	}
	return lost
}

// do does a valid act, and returns how many pulses are lost, and a code.
func (w *turnstile) do(a impl.Act) (int64, int64) {
	switch a.Kind {
	case impl.AcPulse:
		return w.pulses(a.N, w.up), impl.OK
	case impl.AcBack:
		return w.pulses(a.N, w.down), impl.OK
	case impl.AcPreset:
		if a.N >= int64(len(w.all)) {
			return 0, impl.ErrRange
		}
		w.preset = a.N
		w.stopped = w.showsPreset()
	case impl.AcReset:
		w.shows = impl.Digits{}
		w.stopped = w.preset == 0
	case impl.AcTicket:
		if w.tickets == 1000000 {
			return 0, impl.ErrState
		}
		w.tickets++
	}
	return 0, impl.OK
}

// told is what becomes of some acts.
type told struct {
	device  impl.Device
	lost    int64
	notes   []impl.Note
	tickets []impl.Ticket
	code    int64
}

// play does acts with a valid device one after the other.
func play(d impl.Device, list []impl.Act) told {
	w, x := turnstileOf(d), told{}
	for _, a := range list {
		lost, code := w.do(a)
		if code != impl.OK {
			return told{code: code}
		}
		x.lost += lost
		x.notes = append(x.notes, note(a, w.shows, lost))
		if a.Kind == impl.AcTicket {
			x.tickets = append(x.tickets, printed(w.tickets, w.shows))
		}
	}
	if x.lost > impl.MaxCount {
		return told{code: impl.ErrRange}
	}
	x.device = w.device()
	return x
}

// checkByWords returns the check of a ticket: all bytes times powers of 259, and a 1 ahead
// of them, in numbers that never wrap.
func checkByWords(number int64, shows impl.Digits) uint16 {
	list := []byte{byte(number % 256), byte(number / 256 % 256), byte(number / 65536 % 256), byte(number / 16777216)}
	sum := big.NewInt(1)
	for _, b := range append(list, shows[:]...) {
		sum.Mul(sum, big.NewInt(259))
		sum.Add(sum, big.NewInt(int64(b)))
	}
	return uint16(sum.Mod(sum, big.NewInt(65536)).Int64())
}

// printed returns the ticket with the right check.
func printed(number int64, shows impl.Digits) impl.Ticket {
	return ticket(number, shows, checkByWords(number, shows))
}

// device returns a device that is not stopped, and has no tickets.
func device(s impl.Stack, value, preset int64) impl.Device {
	d, _ := impl.DigitsOf(s, value)
	return impl.Device{Stack: s, Shows: d, Preset: preset}
}

// stoppedAt returns the device that is stopped at its Preset.
func stoppedAt(s impl.Stack, preset int64) impl.Device {
	d := device(s, preset, preset)
	d.Stopped = true
	return d
}

func withTickets(d impl.Device, n int64) impl.Device {
	d.Tickets = n
	return d
}

// allDevices returns all valid devices of a stack with so many tickets.
func allDevices(s impl.Stack, n int64) []impl.Device {
	var list []impl.Device
	size := int64(len(allDigits(s)))
	for preset := int64(-1); preset < size; preset++ {
		for value := range size {
			list = append(list, withTickets(device(s, value, preset), n))
		}
		if preset >= 0 {
			list = append(list, withTickets(stoppedAt(s, preset), n))
		}
	}
	return list
}

// wheels8 has 8 wheels, and just MaxCount values.
func wheels8() impl.Stack { return impl.Stack{100, 100, 100, 100, 100, 10, 5, 2} }

// madeActs returns n valid acts, the same ones for the same numbers.
func madeActs(n int, size int64, seed uint64) []impl.Act {
	next := numbersFrom(seed)
	var list []impl.Act
	for range n {
		switch next(9) {
		case 0, 1, 2:
			list = append(list, pulse(next(2*size)))
		case 3, 4:
			list = append(list, pulseBack(next(2*size)))
		case 5, 6:
			list = append(list, presetTo(next(size+1)-1))
		case 7:
			list = append(list, resetAct())
		default:
			list = append(list, ticketAct())
		}
	}
	return list
}

// validByWords reports whether an act is valid, as the document says it.
func validByWords(a impl.Act) bool {
	switch a.Kind {
	case 1, 2:
		return a.N >= 0 && a.N <= 1000000000000
	case 3:
		return a.N >= -1 && a.N <= 1000000000000
	case 4, 5:
		return a.N == 0
	}
	return false
}

// badActs are not valid, each for another reason.
func badActs() []impl.Act {
	const most = impl.MaxCount
	list := acts(impl.Act{}, act(0, 5), act(6, 0), act(6, 1), act(-1, 0), act(-5, 5), act(math.MinInt8, 0), act(math.MaxInt8, 0))
	for kind := int8(impl.AcPulse); kind <= impl.AcTicket; kind++ {
		list = append(list, act(kind, -2), act(kind, most+1), act(kind, math.MinInt64), act(kind, math.MaxInt64), act(kind, -most))
		if kind != impl.AcPreset {
			list = append(list, act(kind, -1))
		}
		if kind > impl.AcPreset {
			list = append(list, act(kind, 1), act(kind, most))
		}
	}
	return list
}

// badDevices are not valid, each for another reason.
func badDevices() []impl.Device {
	ten := impl.Stack{10, 10}
	list := []impl.Device{
		{}, {Preset: -1}, device(ten, 5, -2), device(ten, 5, 100), device(ten, 5, 101), device(ten, 5, math.MinInt64), device(ten, 5, math.MaxInt64), device(ten, 5, impl.MaxCount),
		withTickets(device(ten, 5, 7), -1), withTickets(device(ten, 5, 7), impl.MaxTickets+1), withTickets(device(ten, 5, 7), math.MinInt64), withTickets(device(ten, 5, 7), math.MaxInt64),
		{Stack: ten, Preset: -1, Stopped: true}, {Stack: ten, Preset: 1, Stopped: true}, {Stack: ten, Shows: impl.Digits{5}, Preset: 50, Stopped: true},
		{Stack: ten, Shows: impl.Digits{5}, Preset: 0, Stopped: true}, {Stack: ten, Shows: impl.Digits{5}, Preset: -5, Stopped: true}, {Stack: ten, Preset: 100, Stopped: true},
		{Stack: ten, Shows: impl.Digits{9, 9}, Preset: -1, Stopped: true},
	}
	for _, d := range badDigits() {
		list = append(list, impl.Device{Stack: impl.Stack{10, 10, 2}, Shows: d, Preset: -1}, impl.Device{Stack: impl.Stack{10, 10, 2}, Shows: d, Preset: 5})
	}
	list = append(list, impl.Device{Stack: impl.Stack{10, 10, 2}, Shows: impl.Digits{10}, Preset: 10, Stopped: true}) // a digit that is worth the Preset
	for _, s := range badStacks() {
		list = append(list, impl.Device{Stack: s, Preset: -1}, impl.Device{Stack: s, Preset: 0, Stopped: true})
	}
	return list
}

// sameDevice reports whether two devices are equal, without the package.
func sameDevice(a, b impl.Device) bool {
	stacks := slices.Equal(a.Stack, b.Stack)
	return stacks && a.Shows == b.Shows && a.Preset == b.Preset && a.Stopped == b.Stopped && a.Tickets == b.Tickets
}

func mustActs(t *testing.T, text string) []impl.Act {
	t.Helper()
	list, code := impl.ReadActs(text)
	if code != impl.OK {
		t.Fatalf("ReadActs(%q): code %d", text, code)
	}
	return list
}
