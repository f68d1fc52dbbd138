package tests

import (
	"fmt"
	"math"
	"slices"
	"strings"
	"testing"

	"loop.example/g01278/impl"
)

// deviceInput has an argument for every parameter of chapter 7.
type deviceInput struct {
	d, other impl.Device
	a        impl.Act
	acts     []impl.Act
	s        impl.Stack
	shows    impl.Digits
	n, k     int64
	ticket   impl.Ticket
	tickets  []impl.Ticket
	notes    []impl.Note
	text     string
}

func (x deviceInput) String() string {
	d, e := x.d, x.other
	d.Stack, e.Stack = d.Stack[:min(len(d.Stack), 9)], e.Stack[:min(len(e.Stack), 9)]
	return fmt.Sprint(d, e, x.a, x.acts[:min(len(x.acts), 9)], x.s[:min(len(x.s), 9)], x.shows, x.n, x.k, x.ticket, x.tickets[:min(len(x.tickets), 9)], x.notes[:min(len(x.notes), 9)], short(x.text))
}

func deviceCalls() []call[deviceInput] {
	return []call[deviceInput]{
		{"ValidDevice", false, func(x deviceInput) []any { return results(impl.ValidDevice(x.d)) }},
		{"SameDevice", false, func(x deviceInput) []any { return results(impl.SameDevice(x.d, x.other)) }},
		{"ValidAct", false, func(x deviceInput) []any { return results(impl.ValidAct(x.a)) }},
		{"NewDevice", true, func(x deviceInput) []any { a, c := impl.NewDevice(x.s); return results(a, c) }},
		{"DoAct", true, func(x deviceInput) []any { a, b, c := impl.DoAct(x.d, x.a); return results(a, b, c) }},
		{"DoActs", true, func(x deviceInput) []any { a, b, c := impl.DoActs(x.d, x.acts); return results(a, b, c) }},
		{"CheckOf", true, func(x deviceInput) []any { a, c := impl.CheckOf(x.s, x.n, x.shows); return results(a, c) }},
		{"PrintTicket", true, func(x deviceInput) []any { a, b, c := impl.PrintTicket(x.d); return results(a, b, c) }},
		{"IsGenuine", true, func(x deviceInput) []any { a, c := impl.IsGenuine(x.s, x.ticket); return results(a, c) }},
		{"TicketsOf", true, func(x deviceInput) []any { a, c := impl.TicketsOf(x.d, x.acts); return results(a, c) }},
		{"FirstForged", true, func(x deviceInput) []any { a, c := impl.FirstForged(x.s, x.tickets); return results(a, c) }},
		{"MissingNumbers", true, func(x deviceInput) []any { a, c := impl.MissingNumbers(x.s, x.tickets); return results(a, c) }},
		{"JournalOf", true, func(x deviceInput) []any { a, c := impl.JournalOf(x.d, x.acts); return results(a, c) }},
		{"FirstWrong", true, func(x deviceInput) []any { a, c := impl.FirstWrong(x.d, x.notes); return results(a, c) }},
		{"PulsesUntilStop", true, func(x deviceInput) []any { a, c := impl.PulsesUntilStop(x.d); return results(a, c) }},
		{"BatchActs", true, func(x deviceInput) []any { a, c := impl.BatchActs(x.d, x.n, x.k); return results(a, c) }},
		{"ShortActs", true, func(x deviceInput) []any { a, c := impl.ShortActs(x.acts); return results(a, c) }},
		{"ActsText", false, func(x deviceInput) []any { return results(impl.ActsText(x.acts)) }},
		{"ReadActs", true, func(x deviceInput) []any { a, c := impl.ReadActs(x.text); return results(a, c) }},
		{"TicketText", false, func(x deviceInput) []any { return results(impl.TicketText(x.s, x.ticket)) }},
		{"ReadTicket", true, func(x deviceInput) []any { a, c := impl.ReadTicket(x.s, x.text); return results(a, c) }},
	}
}

// mixedActs has lists of acts that are done, that have errors, and that are not valid.
func mixedActs() [][]impl.Act {
	const most = impl.MaxCount
	lists := [][]impl.Act{nil, {}, acts(pulse(8)), acts(pulse(2), pulse(0), pulse(3)), acts(presetTo(5), pulse(most), pulse(most)), acts(presetTo(100)), acts(presetTo(most), presetTo(1)),
		slices.Repeat(acts(ticketAct()), 60), slices.Repeat(acts(ticketAct()), 61), slices.Repeat(acts(pulse(most)), 60), acts(resetAct(), resetAct(), ticketAct())}
	for i := range uint64(6) {
		lists = append(lists, madeActs(int(i*11), 100, i), append(madeActs(5, 100, i), badActs()[i*3]))
	}
	return lists
}

// mixedNotes has journals that are right, and others.
func mixedNotes(d impl.Device) [][]impl.Note {
	lists := [][]impl.Note{nil, {}, {{}}, {note(pulse(8), impl.Digits{5}, 3)}, {note(presetTo(-2), impl.Digits{255}, math.MinInt64)}, slices.Repeat([]impl.Note{note(pulse(0), d.Shows, 0)}, 60), slices.Repeat([]impl.Note{note(pulse(0), d.Shows, 0)}, 61)}
	for i := range uint64(3) {
		list, _ := impl.JournalOf(d, madeActs(9, 100, i))
		lists = append(lists, list, append(slices.Clone(list), note(pulse(1), impl.Digits{}, 1)))
	}
	return lists
}

// deviceInputs has valid and invalid arguments of every kind, mixed.
func deviceInputs() []deviceInput {
	ten, eight := impl.Stack{10, 10}, wheels8()
	devices := append(badDevices(), device(ten, 0, 5), device(ten, 5, 5), stoppedAt(ten, 5), device(ten, 7, -1), withTickets(stoppedAt(ten, 0), impl.MaxTickets), withTickets(device(ten, 7, 9), impl.MaxTickets-1),
		device(eight, 5, -1), device(eight, impl.MaxCount-1, 0), stoppedAt(limitStack(), 7), device(impl.Stack{2}, 1, 1), device(impl.Stack{2, 3}, 1, -1))
	devices = slices.DeleteFunc(devices, func(d impl.Device) bool { return len(d.Stack) > 1000 })
	list := append(badActs(), pulse(8), pulse(impl.MaxCount), pulseBack(3), presetTo(5), presetTo(-1), presetTo(100), resetAct(), ticketAct())
	forged := append(badTickets(), printed(1, impl.Digits{}), printed(1, impl.Digits{5}), printed(impl.MaxTickets, impl.Digits{1}))
	rolls := [][]impl.Ticket{nil, {}, tickets(1, 2, 3), tickets(3, 2, 9), tickets(1001), tickets(1002), tickets(from(1, 60)...), tickets(from(1, 61)...), forged[:3], append(tickets(1), forged[1])}
	numbers := []int64{0, 1, 2, 5, 14, 15, 60, 61, 99, 100, -1, -2, impl.MaxTickets, impl.MaxTickets + 1, impl.MaxCount - 1, impl.MaxCount, math.MaxInt64, math.MinInt64, 1<<32 + 1}
	texts := []string{"", "pulse 5\nreset\n", "ticket\n", "pulse", "preset -1\n", "1 0:5 44195", "1 0 55020", "1 0:5 44196", "x", "\n", "9\xff"}
	lists, digits, stacks := mixedActs(), append(badDigits(), impl.Digits{}, impl.Digits{5}, impl.Digits{1}, impl.Digits{9, 9}), []impl.Stack{ten, {2}, {10, 10, 2}, nil, {10, 1}, eight}
	var inputs []deviceInput
	for i, d := range devices {
		journals := mixedNotes(d)
		for j, a := range list {
			sum := i*7 + j*11
			inputs = append(inputs, deviceInput{
				d: d, other: devices[(i+j%3)%len(devices)], a: a, acts: lists[(sum+i*j)%len(lists)], s: stacks[(i+j)%len(stacks)], shows: digits[(sum+j*j)%len(digits)],
				n: numbers[(sum+i)%len(numbers)], k: numbers[(sum*5+j)%len(numbers)], ticket: forged[(sum*3+j)%len(forged)], tickets: rolls[(sum+i*i)%len(rolls)],
				notes: journals[(i+j)%len(journals)], text: texts[(i*3+j)%len(texts)],
			})
		}
	}
	return inputs
}

// guardDevices puts the slices of an input into longer ones, whose other elements are
// told too.
func guardDevices(x *deviceInput) []any {
	all := make([]any, 6)
	x.d.Stack, all[0] = inLonger(x.d.Stack, 17)
	x.other.Stack, all[1] = inLonger(x.other.Stack, 18)
	x.s, all[2] = inLonger(x.s, 19)
	x.acts, all[3] = inLonger(x.acts, pulse(17))
	x.tickets, all[4] = inLonger(x.tickets, ticket(17, impl.Digits{18}, 19))
	x.notes, all[5] = inLonger(x.notes, note(pulse(17), impl.Digits{18}, 19))
	return all
}

// TestPromise1Presets checks that every function of chapter 7 returns, twice the same,
// modifies no argument, and has zero values together with a code.
func TestPromise1Presets(t *testing.T) {
	checkCalls(t, deviceCalls(), deviceInputs(), guardDevices)
}

// TestPromise1BadPresets checks that each function of chapter 7 refuses what is not valid
// ahead of every other error, and that those without a code return nothing.
func TestPromise1BadPresets(t *testing.T) {
	ten := impl.Stack{10, 10}
	one := printed(1, impl.Digits{5})
	goods := []deviceInput{
		{d: device(ten, 5, 7), a: pulse(8), acts: acts(pulse(8)), s: ten, shows: impl.Digits{5}, n: 5, k: 2, ticket: one, tickets: []impl.Ticket{one}, notes: []impl.Note{note(pulse(1), impl.Digits{6}, 0)}, text: "1 0:5 44195"},
		{d: withTickets(stoppedAt(ten, 5), impl.MaxTickets), a: ticketAct(), acts: slices.Repeat(acts(ticketAct()), 61), s: ten, n: -1, k: -1, tickets: make([]impl.Ticket, 61), notes: make([]impl.Note, 61), text: "x"},
		{d: device(ten, 5, -1), a: presetTo(100), acts: acts(presetTo(100)), s: ten, n: impl.MaxTickets + 1, k: 61, ticket: ticket(0, impl.Digits{}, 0), tickets: tickets(5000), notes: nil, text: ""},
	}
	for _, good := range goods {
		for _, bad := range badDevices() {
			x := good
			x.d = bad
			checkRefused(t, deviceCalls(), x, "ValidDevice", "DoAct", "DoActs", "PrintTicket", "TicketsOf", "JournalOf", "FirstWrong", "PulsesUntilStop", "BatchActs")
		}
		for _, bad := range badActs() {
			x := good
			x.a = bad
			checkRefused(t, deviceCalls(), x, "ValidAct", "DoAct")
			for _, at := range []int{0, len(good.acts) / 2, len(good.acts)} {
				x.acts = slices.Insert(slices.Clone(good.acts), at, bad)
				checkRefused(t, deviceCalls(), x, "DoActs", "TicketsOf", "JournalOf", "ShortActs", "ActsText")
			}
		}
		for _, bad := range badStacks() {
			x := good
			x.s = bad
			checkRefused(t, deviceCalls(), x, "NewDevice", "CheckOf", "IsGenuine", "FirstForged", "MissingNumbers", "TicketText", "ReadTicket")
		}
		for _, bad := range badDigits() {
			x := good
			x.s, x.shows = impl.Stack{10, 10, 2}, bad
			checkRefused(t, deviceCalls(), x, "CheckOf")
		}
	}
}

// TestPromise1ManyActs checks that lists of many elements are gone through.
func TestPromise1ManyActs(t *testing.T) {
	const many = 100000
	ten := impl.Stack{10, 10}
	x := deviceInput{
		d: device(ten, 5, 7), other: device(slices.Repeat(ten, many), 0, -1), acts: slices.Repeat(acts(pulse(8)), many), s: ten, tickets: slices.Repeat(tickets(1), many),
		notes: slices.Repeat([]impl.Note{note(pulse(0), impl.Digits{5}, 0)}, many), text: strings.Repeat("pulse 5\n", many),
	}
	for _, c := range deviceCalls() {
		list := c.run(x)
		checkZeros(t, c, x, list)
		if code := list[len(list)-1]; slices.Contains([]string{"DoActs", "TicketsOf", "FirstForged", "MissingNumbers", "JournalOf", "FirstWrong", "ShortActs"}, c.name) && code != int64(impl.ErrLimit) {
			t.Errorf("%s of many has the code %v", c.name, code)
		}
	}
	x.acts[many-1] = act(6, 0)
	checkRefused(t, deviceCalls(), x, "DoActs", "TicketsOf", "JournalOf", "ShortActs", "ActsText")
	if !impl.SameDevice(x.other, device(slices.Repeat(ten, many), 0, -1)) {
		t.Error("SameDevice of devices with many wheels is false")
	}
}

// TestPromise1NewDevices checks that what is returned shares no memory, neither with what
// other calls return, nor with an argument.
func TestPromise1NewDevices(t *testing.T) {
	s := impl.Stack{10, 10}
	d, list := device(s, 0, 5), acts(pulse(8), ticketAct(), resetAct())
	for name, run := range map[string]func() impl.Device{
		"NewDevice":        func() impl.Device { d, _ := impl.NewDevice(s); return d },
		"DoAct":            func() impl.Device { d, _, _ := impl.DoAct(d, pulse(8)); return d },
		"DoAct of nothing": func() impl.Device { d, _, _ := impl.DoAct(d, pulse(0)); return d },
		"DoActs":           func() impl.Device { d, _, _ := impl.DoActs(d, list); return d },
		"DoActs of none":   func() impl.Device { d, _, _ := impl.DoActs(d, nil); return d },
		"PrintTicket":      func() impl.Device { d, _, _ := impl.PrintTicket(d); return d },
	} {
		one, two := run(), run()
		spoil(one.Stack, 77)
		if again := run(); !slices.Equal(two.Stack, impl.Stack{10, 10}) || !slices.Equal(again.Stack, impl.Stack{10, 10}) {
			t.Errorf("devices of %s share memory: %v, %v", name, two, again)
		}
	}
	apart := acts(pulse(5), resetAct(), ticketAct(), ticketAct()) // nothing in it is joined
	room := slices.Repeat(acts(pulse(1)), 10)[:2]
	checkNewLists(t, map[string]func() []impl.Act{
		"BatchActs":       func() []impl.Act { list, _ := impl.BatchActs(d, 5, 2); return list },
		"no BatchActs":    func() []impl.Act { list, _ := impl.BatchActs(d, 5, 0); return list },
		"ShortActs":       func() []impl.Act { list, _ := impl.ShortActs(list); return list },
		"all ShortActs":   func() []impl.Act { list, _ := impl.ShortActs(apart); return list },
		"short with room": func() []impl.Act { list, _ := impl.ShortActs(room); return list },
		"ReadActs":        func() []impl.Act { list, _ := impl.ReadActs("pulse 5\nreset\n"); return list },
	}, pulse(77))
	checkNewLists(t, map[string]func() []impl.Note{
		"JournalOf": func() []impl.Note { list, _ := impl.JournalOf(d, list); return list },
	}, note(pulse(77), impl.Digits{}, 0))
	checkNewLists(t, map[string]func() []impl.Ticket{
		"TicketsOf": func() []impl.Ticket { printed, _ := impl.TicketsOf(d, list); return printed },
	}, impl.Ticket{})
	checkNewLists(t, map[string]func() []int64{
		"MissingNumbers": func() []int64 { list, _ := impl.MissingNumbers(s, tickets(5, 7)); return list },
	}, 77)
	if !slices.Equal(s, impl.Stack{10, 10}) || !slices.Equal(list, acts(pulse(8), ticketAct(), resetAct())) || !slices.Equal(apart, acts(pulse(5), resetAct(), ticketAct(), ticketAct())) || !slices.Equal(room[:10], slices.Repeat(acts(pulse(1)), 10)) {
		t.Errorf("arguments have become %v, %v, %v and %v", s, list, apart, room[:10])
	}
}

// checkNewLists checks that lists that are returned share no memory.
func checkNewLists[T comparable](t *testing.T, runs map[string]func() []T, with T) {
	t.Helper()
	for name, run := range runs {
		one, two := run(), run()
		want := slices.Clone(one)
		spoil(one, with)
		if again := run(); len(want) == 0 || !slices.Equal(two, want) || !slices.Equal(again, want) {
			t.Errorf("lists of %s share memory: %v, %v, want %v", name, two, again, want)
		}
	}
}

// TestPromise1EmptyActs checks that nil and empty are equivalent.
func TestPromise1EmptyActs(t *testing.T) {
	for _, d := range []impl.Device{device(impl.Stack{10, 10}, 0, 5), {}} {
		for _, c := range deviceCalls() {
			none := c.run(deviceInput{d: d, s: d.Stack, n: 5})
			e := d
			e.Stack = append(impl.Stack{}, d.Stack...)
			empty := c.run(deviceInput{d: e, other: impl.Device{Stack: impl.Stack{}}, acts: []impl.Act{}, s: e.Stack, n: 5, tickets: []impl.Ticket{}, notes: []impl.Note{}})
			if fmt.Sprint(none) != fmt.Sprint(empty) {
				t.Errorf("%s tells nil from empty: %v and %v", c.name, none, empty)
			}
		}
	}
}
