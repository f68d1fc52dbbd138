package tests

import (
	"fmt"
	"math"
	"slices"
	"testing"

	"loop.example/g01278/impl"
)

// TestPromise18Printed prints tickets with each device of small stacks: they are genuine,
// and have numbers one behind the other.
func TestPromise18Printed(t *testing.T) {
	for _, s := range turnstileStacks() {
		for _, n := range []int64{0, 1, 254, 255, 256, 65534, 65535, 65536, 999998, 999999} {
			for _, d := range allDevices(s, n) {
				behind, one, code := impl.PrintTicket(d)
				if want := printed(n+1, d.Shows); one != want || code != impl.OK || !sameDevice(behind, withTickets(d, n+1)) {
					t.Fatalf("PrintTicket(%v) = %v, %v, %d, want %v", d, behind, one, code, want)
				}
				checkGenuine(t, s, one, true)
			}
		}
	}
}

// checkGenuine checks whether a ticket is told to be genuine, by all who tell it.
func checkGenuine(t *testing.T, s impl.Stack, x impl.Ticket, want bool) {
	t.Helper()
	genuine, code := impl.IsGenuine(s, x)
	if genuine != want || code != impl.OK {
		t.Fatalf("IsGenuine(%v, %v) = %t, %d, want %t", s, x, genuine, code, want)
	}
	at, code := impl.FirstForged(s, []impl.Ticket{x})
	if at != 0 || (code == impl.ErrNotFound) != want || code != impl.ErrNotFound && code != impl.OK {
		t.Fatalf("FirstForged(%v, %v) = %d, %d", s, x, at, code)
	}
	if x.Number <= 1000 || !want {
		_, code = impl.MissingNumbers(s, []impl.Ticket{x})
		if (code == impl.OK) != want || code != impl.OK && code != impl.ErrProof {
			t.Fatalf("MissingNumbers(%v, %v): code %d", s, x, code)
		}
	}
	if text := impl.TicketText(s, x); (text != "") != want {
		t.Fatalf("TicketText(%v, %v) = %q", s, x, text)
	}
}

// TestPromise18Check makes checks of many tickets, most of which wrap.
func TestPromise18Check(t *testing.T) {
	stacks := []impl.Stack{{10, 10}, {2}, {100}, {60, 60, 24}, limitStack(), wheels8(), {2, 2, 2, 2, 2, 2, 2, 2}}
	numbers := []int64{1, 2, 255, 256, 257, 65535, 65536, 65537, 131072, 999999, impl.MaxTickets}
	next := numbersFrom(5)
	for _, s := range stacks {
		size, _ := impl.SizeOf(s)
		for i := range 300 {
			number, value := 1+next(impl.MaxTickets), (next(1<<30)*1000+next(1000))%size
			if i < len(numbers) {
				number = numbers[i]
			}
			if i%10 == 0 {
				value = []int64{0, size - 1, 1}[i/10%3]
			}
			shows, _ := impl.DigitsOf(s, value)
			if check, code := impl.CheckOf(s, number, shows); check != checkByWords(number, shows) || code != impl.OK {
				t.Fatalf("CheckOf(%v, %d, %v) = %d, %d, want %d", s, number, shows, check, code, checkByWords(number, shows))
			}
			checkGenuine(t, s, printed(number, shows), true)
		}
	}
}

// TestPromise18ByHand has checks that are told here.
func TestPromise18ByHand(t *testing.T) {
	ten, eight := impl.Stack{10, 10}, impl.Stack{2, 2, 2, 2, 2, 2, 2, 2}
	tests := []struct {
		s      impl.Stack
		number int64
		shows  impl.Digits
		want   uint16
	}{
		{ten, 1, impl.Digits{}, 55020},
		{ten, 1, impl.Digits{5}, 44195},
		{ten, 2, impl.Digits{5}, 41886},
		{ten, 1, impl.Digits{0, 5}, 24361},
		{ten, 3, impl.Digits{}, 50402},
		{ten, 255, impl.Digits{9, 9}, 62330},
		{ten, 256, impl.Digits{}, 42138},
		{ten, 65536, impl.Digits{}, 54740},
		{ten, 1000000, impl.Digits{}, 47760},
		{limitStack(), 1000000, impl.Digits{99, 99, 99, 99, 99, 99}, 5748},
		{eight, 999999, impl.Digits{1, 1, 1, 1, 1, 1, 1, 1}, 37989},
		{eight, 1, impl.Digits{0, 0, 0, 0, 0, 0, 0, 1}, 55021},
		{impl.Stack{2}, 1, impl.Digits{}, 55020}, // whatever the stack is
	}
	for _, x := range tests {
		if check, code := impl.CheckOf(x.s, x.number, x.shows); check != x.want || code != impl.OK {
			t.Errorf("CheckOf(%v, %d, %v) = %d, %d, want %d", x.s, x.number, x.shows, check, code, x.want)
		}
		d := impl.Device{Stack: x.s, Shows: x.shows, Preset: -1, Tickets: x.number - 1}
		want := ticket(x.number, x.shows, x.want)
		if behind, one, code := impl.PrintTicket(d); one != want || code != impl.OK || !sameDevice(behind, withTickets(d, x.number)) {
			t.Errorf("PrintTicket(%v) = %v, %v, %d, want %v", d, behind, one, code, want)
		}
		checkGenuine(t, x.s, want, true)
	}
}

// badTickets are not genuine for the stack "2:10:10", each for another reason.
func badTickets() []impl.Ticket {
	list := []impl.Ticket{{}, ticket(7, impl.Digits{}, 0), ticket(1, impl.Digits{5}, 44194), ticket(1, impl.Digits{5}, 44196), ticket(1, impl.Digits{5}, 41886), ticket(2, impl.Digits{5}, 44195),
		ticket(1, impl.Digits{0, 5}, 44195), ticket(1<<32+1, impl.Digits{}, 55020), ticket(1<<33+256, impl.Digits{}, 42138)}
	for _, number := range append(badNumbers(impl.MaxTickets), 0, impl.MaxTickets+255) {
		list = append(list, ticket(number, impl.Digits{}, wrappedCheck(number, impl.Digits{})), ticket(number, impl.Digits{5}, 1))
	}
	for _, shows := range badDigits() {
		list = append(list, ticket(1, shows, checkByWords(1, shows)), ticket(impl.MaxTickets, shows, checkByWords(impl.MaxTickets, shows)))
	}
	return list
}

// wrappedCheck returns the check that the lowest four bytes of any number would have.
func wrappedCheck(number int64, shows impl.Digits) uint16 {
	return checkByWords(int64(uint32(number)), shows)
}

// TestPromise18Changed changes genuine tickets: they are not genuine then.
func TestPromise18Changed(t *testing.T) {
	s := impl.Stack{10, 10, 2}
	for _, x := range badTickets() {
		checkGenuine(t, s, x, false)
	}
	for _, x := range []impl.Ticket{printed(1, impl.Digits{}), printed(1, impl.Digits{5}), printed(700, impl.Digits{9, 9, 1}), printed(impl.MaxTickets, impl.Digits{0, 0, 1})} {
		checkGenuine(t, s, x, true)
		for check := range 65536 { // any other check
			x := ticket(x.Number, x.Shows, uint16(check))
			genuine, code := impl.IsGenuine(s, x)
			if genuine != (x.Check == checkByWords(x.Number, x.Shows)) || code != impl.OK {
				t.Fatalf("IsGenuine(%v) = %t, %d", x, genuine, code)
			}
		}
		for number := int64(-5); number < 1000; number++ { // other numbers, for some of which the check is right
			x := ticket(number, x.Shows, x.Check)
			checkGenuine(t, s, x, number >= 1 && x.Check == checkByWords(number, x.Shows))
		}
		for value := range int64(200) {
			shows, _ := impl.DigitsOf(s, value)
			x := ticket(x.Number, shows, x.Check)
			checkGenuine(t, s, x, x.Check == checkByWords(x.Number, shows))
		}
	}
	// What another stack shows need not be valid.
	for _, x := range []impl.Ticket{printed(1, impl.Digits{9}), printed(1, impl.Digits{0, 0, 1}), printed(5, impl.Digits{0, 7})} {
		checkGenuine(t, impl.Stack{10, 10, 2}, x, true)
		checkGenuine(t, impl.Stack{9}, x, false)
		checkGenuine(t, impl.Stack{9, 7}, x, false)
	}
}

// TestPromise18Refused checks what functions with tickets refuse, and in which order.
func TestPromise18Refused(t *testing.T) {
	s := impl.Stack{10, 10, 2}
	for _, number := range append(badNumbers(impl.MaxTickets), 0) {
		check, code := impl.CheckOf(s, number, impl.Digits{5})
		mustCode(t, fmt.Sprint("CheckOf the number ", number), code, impl.ErrRange)
		if check != 0 {
			t.Errorf("CheckOf the number %d is %d", number, check)
		}
	}
	for _, number := range append(badNumbers(impl.MaxTickets), 0, 1, impl.MaxTickets) {
		for _, d := range badDigits() {
			check, code := impl.CheckOf(s, number, d)
			mustCode(t, fmt.Sprint("CheckOf bad digits and ", number), code, impl.ErrInvalid)
			if check != 0 {
				t.Errorf("CheckOf the digits %v is %d", d, check)
			}
		}
	}
	one := printed(1, impl.Digits{})
	for _, bad := range badStacks() {
		check, code := impl.CheckOf(bad, 1, impl.Digits{})
		genuine, code2 := impl.IsGenuine(bad, one)
		if check != 0 || genuine || code != impl.ErrInvalid || code2 != impl.ErrInvalid {
			t.Errorf("a bad stack has the check %d, %d, and is genuine %t, %d", check, code, genuine, code2)
		}
		for _, list := range [][]impl.Ticket{nil, {one}, {{}}, slices.Repeat([]impl.Ticket{one}, 61)} {
			ticketsRefused(t, bad, list, impl.ErrInvalid, impl.ErrInvalid)
		}
	}
	full := withTickets(device(s, 5, 7), impl.MaxTickets)
	for _, d := range append(badDevices(), full) {
		want := int64(impl.ErrInvalid)
		if impl.ValidDevice(d) {
			want = impl.ErrState
		}
		behind, x, code := impl.PrintTicket(d)
		if !sameDevice(behind, impl.Device{}) || x != (impl.Ticket{}) || code != want {
			t.Errorf("PrintTicket of a bad device is %v, %v, %d", behind, x, code)
		}
	}
	last := withTickets(full, impl.MaxTickets-1)
	if behind, x, code := impl.PrintTicket(last); !sameDevice(behind, full) || x != printed(impl.MaxTickets, full.Shows) || code != impl.OK {
		t.Errorf("PrintTicket(%v) = %v, %v, %d", last, behind, x, code)
	}
}

// ticketsRefused checks the codes of FirstForged and of MissingNumbers.
func ticketsRefused(t *testing.T, s impl.Stack, list []impl.Ticket, forged, missing int64) {
	t.Helper()
	at, one := impl.FirstForged(s, list)
	numbers, two := impl.MissingNumbers(s, list)
	if at != 0 || one != forged || len(numbers) > 0 || two != missing {
		t.Errorf("%d tickets: the first forged one is %d, %d, and missing are %v, %d, want the codes %d and %d", len(list), at, one, numbers, two, forged, missing)
	}
}

// tickets returns genuine tickets with some numbers.
func tickets(numbers ...int64) []impl.Ticket {
	var list []impl.Ticket
	for i, n := range numbers {
		list = append(list, printed(n, impl.Digits{uint8(i % 10)}))
	}
	return list
}

// from returns so many numbers, from first on.
func from(first, n int64) []int64 {
	var list []int64
	for i := range n {
		list = append(list, first+i)
	}
	return list
}

// TestPromise18Lists has lists of tickets of which it is told here which one is the first
// forged one, and which numbers are missing.
func TestPromise18Lists(t *testing.T) {
	const most, none = impl.MaxTickets, int64(-1)
	s := impl.Stack{10, 10}
	forged := ticket(4, impl.Digits{}, 7)
	tests := []struct {
		list    []impl.Ticket
		first   int64 // or none
		missing []int64
		code    int64
	}{
		{nil, none, nil, impl.OK},
		{tickets(1), none, nil, impl.OK},
		{tickets(1, 2, 3), none, nil, impl.OK},
		{tickets(3), none, from(1, 2), impl.OK},
		{tickets(2, 5, 6, 9), none, []int64{1, 3, 4, 7, 8}, impl.OK},
		{tickets(1, 1), 1, nil, impl.OK}, // equal numbers
		{tickets(3, 3, 3), 1, from(1, 2), impl.OK},
		{tickets(2, 1), 1, nil, impl.OK}, // numbers that fall
		{tickets(1, 2, 4, 3), 3, nil, impl.OK},
		{tickets(5, 3, 4), 1, from(1, 2), impl.OK},
		{tickets(1, 5, 5, 2), 2, from(3, 2), impl.OK},
		{tickets(9, 2, 9, 2), 1, []int64{1, 3, 4, 5, 6, 7, 8}, impl.OK},
		{append(tickets(3), tickets(3)...), 1, from(1, 2), impl.OK}, // one ticket twice
		{[]impl.Ticket{forged}, 0, nil, impl.ErrProof},
		{append(tickets(1, 2, 3), forged), 3, nil, impl.ErrProof},
		{append([]impl.Ticket{forged}, tickets(5, 6)...), 0, nil, impl.ErrProof},
		{append(tickets(5, 4), forged), 1, nil, impl.ErrProof},
		{append(tickets(1, 2, 5), forged), 3, nil, impl.ErrProof},
		{tickets(1001), none, from(1, 1000), impl.OK}, // just 1000 are missing
		{tickets(1002), none, nil, impl.ErrRange},     // one more
		{tickets(1, 1002), none, from(2, 1000), impl.OK},
		{tickets(1, 1003), none, nil, impl.ErrRange},
		{tickets(1002, 1), 1, from(2, 1000), impl.OK},
		{tickets(1003, 1), 1, nil, impl.ErrRange},
		{tickets(1003, 1, 1), 1, nil, impl.ErrRange}, // a number is not told for twice
		{tickets(1003, 1003), 1, nil, impl.ErrRange},
		{tickets(1003, 1, 2), 1, from(3, 1000), impl.OK},
		{tickets(501, 1002), none, append(from(1, 500), from(502, 500)...), impl.OK}, // in two gaps
		{tickets(501, 1003), none, nil, impl.ErrRange},
		{tickets(most), none, nil, impl.ErrRange},
		{tickets(1, most), none, nil, impl.ErrRange},
		{append(tickets(most), forged), 1, nil, impl.ErrProof}, // a proof ahead of a range
		{append([]impl.Ticket{forged}, tickets(most)...), 0, nil, impl.ErrProof},
		{tickets(from(1, 60)...), none, nil, impl.OK}, // just MaxActs
		{tickets(from(1001, 60)...), none, from(1, 1000), impl.OK},
		{tickets(from(1002, 60)...), none, nil, impl.ErrRange},
		{tickets(from(most-59, 60)...), none, nil, impl.ErrRange},
		{append(tickets(from(1, 59)...), forged), 59, nil, impl.ErrProof},
		{append(tickets(from(1, 59)...), tickets(59)...), 59, nil, impl.OK},
	}
	for _, x := range tests {
		want, code := x.first, int64(impl.OK)
		if x.first == none {
			want, code = 0, impl.ErrNotFound
		}
		if at, c := impl.FirstForged(s, x.list); at != want || c != code {
			t.Errorf("FirstForged(%v) = %d, %d, want %d, %d", x.list, at, c, want, code)
		}
		if list, c := impl.MissingNumbers(s, x.list); !slices.Equal(list, x.missing) || c != x.code {
			t.Errorf("MissingNumbers(%v) = %v, %d, want %v, %d", x.list, list, c, x.missing, x.code)
		}
	}
	// One more than MaxActs, ahead of all other errors.
	for _, list := range [][]impl.Ticket{tickets(from(1, 61)...), slices.Repeat(tickets(1), 61), slices.Repeat([]impl.Ticket{forged}, 61), tickets(from(most-60, 61)...), make([]impl.Ticket, 1000)} {
		ticketsRefused(t, s, list, impl.ErrLimit, impl.ErrLimit)
	}
	// Each bad ticket at each place.
	for _, bad := range badTickets() {
		for at := range int64(4) {
			list := slices.Insert(tickets(10, 11, 12), int(at), bad)
			first, one := impl.FirstForged(impl.Stack{10, 10, 2}, list)
			numbers, two := impl.MissingNumbers(impl.Stack{10, 10, 2}, list)
			if first != at || one != impl.OK || len(numbers) > 0 || two != impl.ErrProof {
				t.Errorf("%v: the first forged one is %d, %d, and missing are %v, %d", list, first, one, numbers, two)
			}
		}
	}
}

// TestPromise18MissingAll has all lists of few numbers.
func TestPromise18MissingAll(t *testing.T) {
	lists := [][]int64{nil}
	for range 5 {
		var longer [][]int64
		for _, numbers := range lists {
			list := tickets(numbers...)
			var missing []int64
			for n := int64(1); len(numbers) > 0 && n < slices.Max(numbers); n++ {
				if !slices.Contains(numbers, n) {
					missing = append(missing, n)
				}
			}
			if got, code := impl.MissingNumbers(impl.Stack{10}, list); !slices.Equal(got, missing) || code != impl.OK {
				t.Fatalf("MissingNumbers of %v = %v, %d, want %v", numbers, got, code, missing)
			}
			at := slices.IndexFunc(list, func(x impl.Ticket) bool { return x.Shows[0] > 0 && x.Number <= list[x.Shows[0]-1].Number })
			got, code := impl.FirstForged(impl.Stack{10}, list)
			if got != int64(max(at, 0)) || (at < 0) != (code == impl.ErrNotFound) || at >= 0 && code != impl.OK {
				t.Fatalf("FirstForged of %v = %d, %d, want %d", numbers, got, code, at)
			}
			for n := int64(1); n <= 6; n++ {
				longer = append(longer, append(slices.Clone(numbers), n))
			}
		}
		lists = longer
	}
}

// TestPromise18Journals makes journals and tickets of many acts: no note is wrong, and
// the tickets are genuine, with numbers one behind the other.
func TestPromise18Journals(t *testing.T) {
	many, errors := 0, 0
	for seed := range uint64(2000) {
		s := turnstileStacks()[seed%8]
		size := int64(len(allDigits(s)))
		devices := allDevices(s, []int64{0, 3, 77, 999990, 999999}[seed%5])
		d := devices[int(seed/8)%len(devices)]
		list := madeActs(int(seed*7%61), size, seed)
		want := play(d, list)
		notes, one := impl.JournalOf(d, list)
		printed, two := impl.TicketsOf(d, list)
		if !slices.Equal(notes, want.notes) || one != want.code {
			t.Fatalf("JournalOf(%v, %v) = %v, %d, want %v, %d", d, list, notes, one, want.notes, want.code)
		}
		if !slices.Equal(printed, want.tickets) || two != want.code {
			t.Fatalf("TicketsOf(%v, %v) = %v, %d, want %v, %d", d, list, printed, two, want.tickets, want.code)
		}
		if want.code != impl.OK {
			errors++
			continue
		}
		if at, code := impl.FirstWrong(d, notes); at != 0 || code != impl.ErrNotFound {
			t.Fatalf("FirstWrong(%v, %v) = %d, %d", d, notes, at, code)
		}
		if len(printed) > 1 {
			many++
		}
		for i, x := range printed {
			if x.Number != d.Tickets+int64(i)+1 {
				t.Fatalf("TicketsOf(%v, %v) = %v", d, list, printed)
			}
			if genuine, code := impl.IsGenuine(s, x); !genuine || code != impl.OK {
				t.Fatalf("the ticket %v is not genuine: %d", x, code)
			}
		}
		ticketsInOrder(t, d, printed)
	}
	if min(many, errors) < 100 {
		t.Errorf("%d lists print several tickets, and %d have errors", many, errors)
	}
}

// ticketsInOrder checks what is told of tickets that have been printed one behind the
// other by a device.
func ticketsInOrder(t *testing.T, d impl.Device, list []impl.Ticket) {
	t.Helper()
	if at, code := impl.FirstForged(d.Stack, list); at != 0 || code != impl.ErrNotFound {
		t.Fatalf("FirstForged(%v) = %d, %d", list, at, code)
	}
	numbers, code := impl.MissingNumbers(d.Stack, list)
	if len(list) > 0 && d.Tickets <= 1000 && (!slices.Equal(numbers, from(1, d.Tickets)) || code != impl.OK) || len(list) == 0 && (len(numbers) > 0 || code != impl.OK) {
		t.Fatalf("MissingNumbers(%v) = %v, %d", list, numbers, code)
	}
}

// firstWrongByWords returns the index of the first note that is not as a turnstile does
// its act, or -1 if there is none.
func firstWrongByWords(d impl.Device, notes []impl.Note) int64 {
	w := turnstileOf(d)
	for i, n := range notes {
		if !validByWords(n.Act) {
			return int64(i)
		}
		lost, code := w.do(n.Act)
		if code != impl.OK || n.Shows != w.shows || n.Lost != lost {
			return int64(i)
		}
	}
	return -1
}

// checkWrong checks the first wrong note against a turnstile, and returns it, or -1.
func checkWrong(t *testing.T, d impl.Device, notes []impl.Note) int64 {
	t.Helper()
	want, code := firstWrongByWords(d, notes), int64(impl.OK)
	first := want
	if want < 0 {
		want, code = 0, impl.ErrNotFound
	}
	if at, c := impl.FirstWrong(d, notes); at != want || c != code {
		t.Fatalf("FirstWrong(%v, %v) = %d, %d, want %d, %d", d, notes, at, c, want, code)
	}
	return first
}

// TestPromise18Wrong changes journals at each place.
func TestPromise18Wrong(t *testing.T) {
	later, right := 0, 0
	for seed := range uint64(300) {
		s := turnstileStacks()[seed%8]
		size := int64(len(allDigits(s)))
		devices := allDevices(s, int64(seed%3)*7)
		d := devices[int(seed/8)%len(devices)]
		notes, code := impl.JournalOf(d, madeActs(int(seed%8)+1, size, seed))
		if code != impl.OK {
			t.Fatalf("JournalOf: code %d", code)
		}
		for at, old := range notes {
			n := int64(at)
			changed := func(x impl.Note) int64 {
				notes[at] = x
				defer func() { notes[at] = old }()
				return checkWrong(t, d, notes)
			}
			for _, x := range []impl.Note{note(old.Act, old.Shows, old.Lost+1), note(old.Act, old.Shows, old.Lost-1), note(old.Act, old.Shows, math.MinInt64),
				note(old.Act, impl.Digits{old.Shows[0] + 1}, old.Lost), note(old.Act, impl.Digits{0, 0, 0, 0, 0, 0, 0, 1}, old.Lost), note(presetTo(size), old.Shows, old.Lost)} {
				if first := changed(x); first != n { // a wrong number, a wrong display, and an error
					t.Fatalf("%v, changed at %d to %v, is wrong at %d", notes, at, x, first)
				}
			}
			for _, bad := range badActs() {
				if first := changed(note(bad, old.Shows, old.Lost)); first != n {
					t.Fatalf("%v, changed at %d to the act %v, is wrong at %d", notes, at, bad, first)
				}
			}
			for _, a := range acts(pulse(0), pulse(1), pulse(old.Act.N+1), pulseBack(old.Act.N), presetTo(0), presetTo(-1), resetAct(), ticketAct()) {
				// Another act may have shown the same: then the notes behind it tell.
				first := changed(note(a, old.Shows, old.Lost))
				if first > n {
					later++
				} else if first < 0 {
					right++
				}
			}
		}
	}
	if min(later, right) < 100 {
		t.Errorf("%d are wrong behind the change, and %d are not wrong", later, right)
	}
}

// TestPromise18WrongByHand has journals of which it is told here which note is wrong.
func TestPromise18WrongByHand(t *testing.T) {
	const none, most = int64(-1), impl.MaxCount
	ten := impl.Stack{10, 10}
	d, at := device(ten, 0, 5), stoppedAt(ten, 5)
	full := withTickets(d, impl.MaxTickets)
	zero, five := impl.Digits{}, impl.Digits{5}
	tests := []struct {
		d     impl.Device
		notes []impl.Note
		want  int64
	}{
		{d, nil, none},
		{d, []impl.Note{note(pulse(8), five, 3)}, none},
		{d, []impl.Note{note(pulse(8), five, 0)}, 0},
		{d, []impl.Note{note(pulse(8), impl.Digits{8}, 0)}, 0},
		{d, []impl.Note{{}}, 0}, // no act
		{d, []impl.Note{note(pulse(0), zero, 0)}, none},
		{d, []impl.Note{note(pulse(8), five, 3), note(pulse(2), five, 2), note(resetAct(), zero, 0)}, none},
		{d, []impl.Note{note(pulse(8), five, 3), note(pulse(2), five, 2), note(resetAct(), five, 0)}, 2},
		{d, []impl.Note{note(pulse(8), five, 3), note(pulse(2), five, 1), note(resetAct(), five, 0)}, 1}, // the first of two
		{d, []impl.Note{note(pulse(7), five, 3), note(pulse(2), five, 2), note(resetAct(), zero, 0)}, 0},
		{d, []impl.Note{note(presetTo(99), zero, 0)}, none},
		{d, []impl.Note{note(presetTo(100), zero, 0)}, 0}, // an act that has an error
		{d, []impl.Note{note(pulse(1), impl.Digits{1}, 0), note(presetTo(100), impl.Digits{1}, 0)}, 1},
		{d, []impl.Note{note(ticketAct(), zero, 0)}, none},
		{full, []impl.Note{note(ticketAct(), zero, 0)}, 0},
		{full, []impl.Note{note(pulse(5), five, 0), note(ticketAct(), five, 0)}, 1},
		{withTickets(d, impl.MaxTickets-1), []impl.Note{note(ticketAct(), zero, 0), note(pulse(0), zero, 0)}, none},
		{withTickets(d, impl.MaxTickets-1), []impl.Note{note(ticketAct(), zero, 0), note(ticketAct(), zero, 0)}, 1},
		{at, []impl.Note{note(pulse(most), five, most), note(pulse(most), five, most)}, none}, // each note for itself
		{at, []impl.Note{note(pulse(most), five, most), note(pulse(most), five, most-1)}, 1},
		{at, slices.Repeat([]impl.Note{note(pulse(1), five, 1)}, 60), none},
		{at, append(slices.Repeat([]impl.Note{note(pulse(1), five, 1)}, 59), note(pulse(1), five, 2)), 59},
		{at, append(slices.Repeat([]impl.Note{note(pulse(1), five, 1)}, 59), note(act(6, 0), five, 0)), 59},
		{at, append([]impl.Note{note(pulse(1), five, 2)}, slices.Repeat([]impl.Note{note(pulse(1), five, 1)}, 59)...), 0},
		{d, []impl.Note{note(pulse(3), impl.Digits{3}, 0), note(pulseBack(1), impl.Digits{2}, 0), note(presetTo(2), impl.Digits{2}, 0), note(pulse(9), impl.Digits{2}, 9)}, none},
		{d, []impl.Note{note(pulse(3), impl.Digits{3}, 0), note(pulseBack(1), impl.Digits{2}, 0), note(presetTo(1), impl.Digits{2}, 0), note(pulse(9), impl.Digits{2}, 9)}, 3}, // a wrong act shows behind it
	}
	for _, x := range tests {
		want, code := x.want, int64(impl.OK)
		if x.want == none {
			want, code = 0, impl.ErrNotFound
		}
		if at, c := impl.FirstWrong(x.d, x.notes); at != want || c != code {
			t.Errorf("FirstWrong(%v, %v) = %d, %d, want %d, %d", x.d, x.notes, at, c, want, code)
		}
		for _, bad := range badDevices() {
			if at, c := impl.FirstWrong(bad, x.notes); at != 0 || c != impl.ErrInvalid {
				t.Errorf("FirstWrong of a bad device and %v = %d, %d", x.notes, at, c)
			}
		}
	}
	for _, n := range []impl.Note{note(pulse(1), five, 1), note(pulse(1), five, 2), note(act(6, 0), five, 0), {}, note(presetTo(-2), five, 0)} {
		for _, count := range []int{61, 1000} { // whatever is in them
			if wrong, c := impl.FirstWrong(at, slices.Repeat([]impl.Note{n}, count)); wrong != 0 || c != impl.ErrLimit {
				t.Errorf("FirstWrong of %d notes %v is %d, %d", count, n, wrong, c)
			}
		}
		if wrong, c := impl.FirstWrong(device(ten, 0, -2), slices.Repeat([]impl.Note{n}, 61)); wrong != 0 || c != impl.ErrInvalid {
			t.Errorf("FirstWrong of a bad device and many notes %v is %d, %d", n, wrong, c)
		}
	}
}

// TestPromise18Batches does batches: each one stops at its size, and has a ticket.
func TestPromise18Batches(t *testing.T) {
	for _, s := range append(turnstileStacks(), impl.Stack{10, 10}, wheels8(), limitStack(), impl.Stack{100}) {
		size, _ := impl.SizeOf(s)
		for _, d := range []impl.Device{device(s, 0, -1), device(s, size-1, 0), stoppedAt(s, 1), withTickets(stoppedAt(s, 0), 7), device(s, 1, 1)} {
			for _, n := range []int64{1, size / 2, size - 1} {
				for batches := range int64(15) {
					checkBatches(t, d, n, batches)
				}
			}
		}
	}
}

func checkBatches(t *testing.T, d impl.Device, size, batches int64) {
	t.Helper()
	want := acts(resetAct())
	for range batches {
		want = append(want, presetTo(size), pulse(size), ticketAct(), resetAct())
	}
	list, code := impl.BatchActs(d, size, batches)
	if !slices.Equal(list, want) || code != impl.OK {
		t.Fatalf("BatchActs(%v, %d, %d) = %v, %d, want %v", d, size, batches, list, code, want)
	}
	notes, one := impl.JournalOf(d, list)
	printed, two := impl.TicketsOf(d, list)
	if len(notes) != len(list) || int64(len(printed)) != batches || one != impl.OK || two != impl.OK {
		t.Fatalf("batches of %v have the notes %v, %d, and the tickets %v, %d", d, notes, one, printed, two)
	}
	shows, _ := impl.DigitsOf(d.Stack, size)
	for i, n := range notes {
		if n.Lost != 0 || n.Act.Kind == impl.AcTicket && n.Shows != shows || n.Act.Kind == impl.AcReset && n.Shows != (impl.Digits{}) {
			t.Fatalf("batches of %v have the note %d, %v", d, i, n)
		}
		if behind, lost, _ := impl.DoActs(d, append(slices.Clone(list[:i+1]), pulse(1))); n.Act.Kind == impl.AcPulse && (!behind.Stopped || lost != 1) {
			t.Fatalf("a batch of %v does not stop at %d: %v", d, size, behind)
		}
	}
	for _, x := range printed {
		if x.Shows != shows {
			t.Fatalf("batches of %v have the ticket %v", d, x)
		}
	}
	ticketsInOrder(t, d, printed)
	if at, code := impl.FirstWrong(d, notes); at != 0 || code != impl.ErrNotFound {
		t.Fatalf("batches of %v have the wrong note %d, %d", d, at, code)
	}
}

// TestPromise18BatchErrors checks what BatchActs refuses, and in which order.
func TestPromise18BatchErrors(t *testing.T) {
	ten := impl.Stack{10, 10}
	d := stoppedAt(ten, 5)
	tests := []struct {
		d             impl.Device
		size, batches int64
		length        int
		code          int64
	}{
		{d, 5, 2, 9, impl.OK},
		{d, 5, 0, 1, impl.OK}, // no batch is a reset alone
		{d, 5, 1, 5, impl.OK},
		{d, 5, 14, 57, impl.OK},
		{d, 5, 15, 0, impl.ErrLimit}, // one more
		{d, 5, 16, 0, impl.ErrLimit},
		{d, 5, 60, 0, impl.ErrLimit},
		{d, 5, 61, 0, impl.ErrRange},
		{d, 5, -1, 0, impl.ErrRange},
		{d, 5, math.MaxInt64, 0, impl.ErrRange},
		{d, 5, math.MinInt64, 0, impl.ErrRange},
		{d, 1, 2, 9, impl.OK},
		{d, 0, 2, 0, impl.ErrRange},
		{d, -1, 2, 0, impl.ErrRange},
		{d, 99, 2, 9, impl.OK}, // the greatest value
		{d, 100, 2, 0, impl.ErrRange},
		{d, math.MaxInt64, 2, 0, impl.ErrRange},
		{d, math.MinInt64, 2, 0, impl.ErrRange},
		{d, 0, 0, 0, impl.ErrRange},
		{d, 100, 15, 0, impl.ErrRange}, // a range ahead of a limit
		{d, 0, 60, 0, impl.ErrRange},
		{device(impl.Stack{2}, 0, -1), 1, 1, 5, impl.OK},
		{device(impl.Stack{2}, 0, -1), 2, 1, 0, impl.ErrRange},
		{device(wheels8(), 0, -1), impl.MaxCount - 1, 3, 13, impl.OK},
		{device(wheels8(), 0, -1), impl.MaxCount, 3, 0, impl.ErrRange},
		{withTickets(d, impl.MaxTickets), 5, 2, 9, impl.OK}, // acts alone: they are not done
	}
	for _, x := range tests {
		list, code := impl.BatchActs(x.d, x.size, x.batches)
		if len(list) != x.length || code != x.code {
			t.Errorf("BatchActs(%v, %d, %d) = %v, %d, want %d acts, %d", x.d, x.size, x.batches, list, code, x.length, x.code)
		}
		for _, bad := range badDevices() {
			if list, code := impl.BatchActs(bad, x.size, x.batches); len(list) > 0 || code != impl.ErrInvalid {
				t.Errorf("BatchActs of a bad device, %d and %d is %v, %d", x.size, x.batches, list, code)
			}
		}
	}
}
