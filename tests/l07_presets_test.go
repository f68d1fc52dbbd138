package tests

import (
	"fmt"
	"slices"
	"strings"
	"testing"

	"loop.example/g01278/impl"
)

// TestPresetsExample asserts the example of chapter 7.
func TestPresetsExample(t *testing.T) {
	s := mustRead(t, "10:10")
	d, code := impl.NewDevice(s)
	mustCode(t, "NewDevice", code, impl.OK)
	behind, lost, code := impl.DoActs(d, acts(presetTo(5), pulse(8)))
	if impl.DigitsText(s, behind.Shows) != "0:5" || !behind.Stopped || lost != 3 || code != impl.OK {
		t.Errorf("behind 8 pulses: %v, %d, %d", behind, lost, code)
	}
	list, code := impl.BatchActs(d, 5, 2)
	mustCode(t, "BatchActs", code, impl.OK)
	notes, code := impl.JournalOf(d, list)
	if len(notes) != 9 || code != impl.OK {
		t.Errorf("the journal is %v, %d", notes, code)
	}
	printed, code := impl.TicketsOf(d, list)
	if len(printed) != 2 || code != impl.OK {
		t.Fatalf("the tickets are %v, %d", printed, code)
	}
	for i, x := range printed {
		if x.Number != int64(i)+1 || impl.DigitsText(s, x.Shows) != "0:5" {
			t.Errorf("the ticket %d is %v", i, x)
		}
	}
	if short, code := impl.ShortActs(acts(pulse(2), pulse(0), pulse(3))); !slices.Equal(short, acts(pulse(5))) || code != impl.OK {
		t.Errorf("ShortActs: %v, %d", short, code)
	}
}

func TestValidDevice(t *testing.T) {
	ten := impl.Stack{10, 10}
	good := []impl.Device{
		device(ten, 0, -1), device(ten, 99, -1), device(ten, 5, 0), device(ten, 5, 99), device(ten, 5, 5), stoppedAt(ten, 0), stoppedAt(ten, 5), stoppedAt(ten, 99),
		withTickets(device(ten, 5, 7), impl.MaxTickets), withTickets(stoppedAt(ten, 7), impl.MaxTickets), withTickets(device(ten, 5, -1), 1), device(impl.Stack{2}, 1, 1), stoppedAt(impl.Stack{2}, 1),
		device(limitStack(), impl.MaxCount-1, impl.MaxCount-1), stoppedAt(wheels8(), impl.MaxCount-1), device(impl.Stack{2, 2, 2, 2, 2, 2, 2, 2}, 255, 0),
		{Stack: impl.Stack{10, 10, 2}, Shows: impl.Digits{9, 9, 1}, Preset: 199, Stopped: true},
	}
	for _, d := range good {
		if !impl.ValidDevice(d) {
			t.Errorf("%v is not valid", d)
		}
	}
	for i, d := range badDevices() {
		if impl.ValidDevice(d) {
			t.Errorf("the bad device %d is valid", i)
		}
	}
	for preset := int64(-3); preset < 15; preset++ {
		for value := range int64(12) {
			for _, stopped := range []bool{false, true} {
				d := impl.Device{Stack: impl.Stack{3, 4}, Shows: allDigits(impl.Stack{3, 4})[value], Preset: preset, Stopped: stopped}
				want := preset >= -1 && preset < 12 && (!stopped || preset == value)
				if impl.ValidDevice(d) != want {
					t.Errorf("ValidDevice(%v) is not %t", d, want)
				}
			}
		}
	}
}

func TestSameDevice(t *testing.T) {
	one := withTickets(stoppedAt(impl.Stack{10, 10}, 5), 7)
	same := withTickets(stoppedAt(impl.Stack{10, 10}, 5), 7)
	others := make([]impl.Device, 9)
	for i := range others {
		others[i] = one
	}
	others[0].Stack = impl.Stack{10, 11}
	others[1].Stack = impl.Stack{10}
	others[2].Stack = nil
	others[3].Shows[0] = 6
	others[4].Shows[7] = 1
	others[5].Preset = 6
	others[6].Stopped = false
	others[7].Tickets = 8
	others[8].Stack = impl.Stack{10, 10, 10}
	if !impl.SameDevice(one, same) || !impl.SameDevice(impl.Device{}, impl.Device{Stack: impl.Stack{}}) || !impl.SameDevice(impl.Device{Stack: impl.Stack{}}, impl.Device{}) {
		t.Error("devices that are equal are not the same")
	}
	for i, d := range others {
		if impl.SameDevice(one, d) || impl.SameDevice(d, one) || !impl.SameDevice(d, d) {
			t.Errorf("the device %d is the same: %v", i, d)
		}
	}
	for i, d := range badDevices() { // they need not be valid
		for j, e := range badDevices() {
			if want := sameDevice(d, e); impl.SameDevice(d, e) != want {
				t.Errorf("SameDevice of the bad devices %d and %d is not %t", i, j, want)
			}
		}
	}
}

func TestValidAct(t *testing.T) {
	const most = impl.MaxCount
	good := acts(pulse(0), pulse(1), pulse(most-1), pulse(most), pulseBack(0), pulseBack(1), pulseBack(most), presetTo(-1), presetTo(0), presetTo(1), presetTo(most), resetAct(), ticketAct())
	for _, a := range good {
		if !impl.ValidAct(a) {
			t.Errorf("%v is not valid", a)
		}
	}
	for _, a := range badActs() {
		if impl.ValidAct(a) {
			t.Errorf("%v is valid", a)
		}
	}
	for kind := -128; kind < 128; kind++ {
		for _, n := range []int64{-3, -2, -1, 0, 1, 2, most - 1, most, most + 1} {
			if a := act(int8(kind), n); impl.ValidAct(a) != validByWords(a) {
				t.Errorf("ValidAct(%v) is not %t", a, validByWords(a))
			}
		}
	}
}

func TestNewDevice(t *testing.T) {
	for _, s := range append(turnstileStacks(), wheels8(), limitStack(), impl.Stack{100}) {
		d, code := impl.NewDevice(s)
		if !sameDevice(d, impl.Device{Stack: s, Preset: -1}) || code != impl.OK || !impl.ValidDevice(d) {
			t.Errorf("NewDevice(%v) = %v, %d", s, d, code)
		}
	}
	for _, s := range badStacks() {
		if d, code := impl.NewDevice(s); !sameDevice(d, impl.Device{}) || code != impl.ErrInvalid {
			t.Errorf("NewDevice of a bad stack is %v, %d", d, code)
		}
	}
}

func TestActsTexts(t *testing.T) {
	tests := []struct {
		list []impl.Act
		text string
	}{
		{nil, ""},
		{acts(pulse(0)), "pulse 0\n"},
		{acts(pulse(5), pulseBack(7), presetTo(9), resetAct(), ticketAct()), "pulse 5\nback 7\npreset 9\nreset\nticket\n"},
		{acts(presetTo(-1)), "preset -1\n"},
		{acts(presetTo(0), pulseBack(0)), "preset 0\nback 0\n"},
		{acts(pulse(impl.MaxCount), pulseBack(impl.MaxCount), presetTo(impl.MaxCount)), "pulse 1000000000000\nback 1000000000000\npreset 1000000000000\n"},
		{slices.Repeat(acts(ticketAct()), 60), strings.Repeat("ticket\n", 60)},
		{slices.Repeat(acts(resetAct(), pulse(10)), 30), strings.Repeat("reset\npulse 10\n", 30)},
	}
	for _, x := range tests {
		if text := impl.ActsText(x.list); text != x.text {
			t.Errorf("ActsText(%v) = %q, want %q", x.list, text, x.text)
		}
		if list, code := impl.ReadActs(x.text); !slices.Equal(list, x.list) || code != impl.OK {
			t.Errorf("ReadActs(%q) = %v, %d, want %v", x.text, list, code, x.list)
		}
		for _, bad := range badActs() {
			for _, at := range []int{0, len(x.list) / 2, len(x.list)} {
				if text := impl.ActsText(slices.Insert(slices.Clone(x.list), at, bad)); text != "" {
					t.Errorf("%v with %v has the text %q", x.list, bad, text)
				}
			}
		}
	}
	for n := range 61 {
		list := madeActs(n, 1000, uint64(n))
		if again, code := impl.ReadActs(impl.ActsText(list)); !slices.Equal(again, list) || code != impl.OK {
			t.Errorf("%v has the text %q, and is read %v, %d", list, impl.ActsText(list), again, code)
		}
	}
	for _, n := range []int{61, 62, 1000} {
		if text := impl.ActsText(slices.Repeat(acts(pulse(1)), n)); text != "" {
			t.Errorf("%d acts have the text %q", n, short(text))
		}
	}
}

// TestActsTextsAll reads all texts of few words, and parts of words.
func TestActsTextsAll(t *testing.T) {
	known := map[string][]impl.Act{"": nil}
	one := map[string]impl.Act{"reset\n": resetAct(), "ticket\n": ticketAct(), "preset -1\n": presetTo(-1)}
	for n := range int64(100) {
		one[fmt.Sprintf("pulse %d\n", n)] = pulse(n)
		one[fmt.Sprintf("back %d\n", n)] = pulseBack(n)
		one[fmt.Sprintf("preset %d\n", n)] = presetTo(n)
	}
	for text, a := range one {
		known[text] = acts(a)
		for next, b := range one {
			known[text+next] = acts(a, b)
		}
	}
	texts, read := []string{""}, 0
	for range 6 {
		var longer []string
		for _, text := range texts {
			want, ok := known[text]
			list, code := impl.ReadActs(text)
			if !slices.Equal(list, want) || ok != (code == impl.OK) || !ok && code != impl.ErrSyntax {
				t.Fatalf("ReadActs(%q) = %v, %d", text, list, code)
			}
			if ok {
				read++
			}
			for _, part := range []string{"pulse", "back", "preset", "reset", "ticket", " ", "0", "1", "-", "\n"} {
				longer = append(longer, text+part)
			}
		}
		texts = longer
	}
	// With 2 parts there are 2 texts of one act alone; with 4 parts 3 words with 2 digits
	// each, and 4 texts of two such acts; with 5 parts 3 words with the 2 numbers 10 and 11,
	// and "preset -1".
	if want := 1 + 2 + 3*2 + 4 + 3*2 + 1; read != want {
		t.Errorf("%d texts are read, want %d", read, want)
	}
}

func TestActsTextsThatAreNone(t *testing.T) {
	texts := []string{
		"\n", " ", "\n\n", "pulse", "pulse 5", "reset", "ticket", "pulse\n", "pulse \n", "back\n", "back \n", "preset\n", "preset \n", // without a number, or the last newline
		"pulse 5\nreset", "pulse 5\nback 6", "pulse 5\n\n", "\npulse 5\n", "pulse 5\n\nreset\n", "reset\n ", "reset\nx",
		"reset 0\n", "reset 5\n", "ticket 0\n", "ticket 1\n", "reset \n", "ticket \n", "reset -1\n", "ticket x\n", "reset reset\n", // with an N behind it
		"pulse  5\n", " pulse 5\n", "pulse 5 \n", "pulse\t5\n", "pulse 5\r\n", " reset\n", "pulse 5 6\n", "pulse 5,6\n", "pulse 5 reset\n", "pulse5\n", "pulse:5\n", // blanks too many
		"pulse 05\n", "pulse 00\n", "back 007\n", "preset 05\n", "preset -01\n", "pulse +5\n", "back +0\n", "preset +5\n", "preset +1\n", // zeros or signs ahead
		"pulse -1\n", "pulse -0\n", "back -1\n", "back -5\n", "preset -0\n", "preset -2\n", "preset -5\n", "preset --1\n", "preset - 1\n", "preset -\n", "preset none\n",
		"pulse 1000000000001\n", "back 1000000000001\n", "preset 1000000000001\n", "pulse 99999999999999999999\n", "pulse 18446744073709551621\n", "preset 18446744073709551615\n", "preset -18446744073709551615\n",
		"pulse 0x5\n", "pulse 1e3\n", "pulse 1_0\n", "pulse 5.0\n", "pulse x\n", "pulse ٣\n", "pulse 5\x00\n", "pulse \xff\n", "\xff", "\x00",
		"Pulse 5\n", "PULSE 5\n", "pulses 5\n", "puls 5\n", "5 pulse\n", "5\n", " 5\n", "0\n", "-1\n", "1 5\n", "push 5\n", "Reset\n", "resets\n", "tickets\n", "pulseback 5\n", "back5\n", "presets 5\n",
		"pulse 5\npulse\n", "reset\nx\nticket\n", "pulse 5;reset\n", "pulse 5 back 6\n",
		strings.Repeat("reset\n", 61), strings.Repeat("reset\n", 60) + "x", strings.Repeat("reset\n", 60) + "\n", strings.Repeat("reset\n", 60) + "reset", strings.Repeat("pulse 0\n", 200),
	}
	for _, text := range texts {
		if list, code := impl.ReadActs(text); len(list) > 0 || code != impl.ErrSyntax {
			t.Errorf("ReadActs(%q) = %v, %d", short(text), list, code)
		}
	}
	for _, part := range []string{"1", "0", "\n", " ", "reset\n", "pulse ", "pulse 5\n", "\x00", "-"} {
		long := strings.Repeat(part, 1000000/len(part))
		for _, text := range []string{long, "pulse 5\n" + long, "pulse " + long + "\n", long + " 5\n", strings.Repeat("reset\n", 59) + long} {
			if list, code := impl.ReadActs(text); len(list) > 0 || code != impl.ErrSyntax {
				t.Errorf("ReadActs of many %q gives %v, %d", part, list, code)
			}
		}
	}
}

func TestTicketTexts(t *testing.T) {
	ten, clock := impl.Stack{10, 10}, impl.Stack{60, 60, 24}
	tests := []struct {
		s    impl.Stack
		x    impl.Ticket
		text string
	}{
		{ten, ticket(1, impl.Digits{5}, 44195), "1 0:5 44195"},
		{ten, ticket(1, impl.Digits{0, 5}, 24361), "1 5:0 24361"},
		{ten, ticket(1000000, impl.Digits{}, 47760), "1000000 0:0 47760"},
		{limitStack(), ticket(1000000, impl.Digits{99, 99, 99, 99, 99, 99}, 5748), "1000000 99:99:99:99:99:99 5748"},
		{limitStack(), ticket(1, impl.Digits{5}, 44195), "1 00:00:00:00:00:05 44195"},
		{impl.Stack{2}, ticket(1, impl.Digits{}, 55020), "1 0 55020"},
		{clock, printed(77, impl.Digits{5, 2, 1}), fmt.Sprintf("77 01:02:05 %d", checkByWords(77, impl.Digits{5, 2, 1}))},
	}
	for _, x := range tests {
		if text := impl.TicketText(x.s, x.x); text != x.text {
			t.Errorf("TicketText(%v, %v) = %q, want %q", x.s, x.x, text, x.text)
		}
		if again, code := impl.ReadTicket(x.s, x.text); again != x.x || code != impl.OK {
			t.Errorf("ReadTicket(%v, %q) = %v, %d, want %v", x.s, x.text, again, code, x.x)
		}
	}
	for _, bad := range badTickets() {
		if text := impl.TicketText(impl.Stack{10, 10, 2}, bad); text != "" {
			t.Errorf("%v has the text %q", bad, text)
		}
	}
	for _, s := range badStacks() {
		if text := impl.TicketText(s, printed(1, impl.Digits{})); text != "" {
			t.Errorf("with a bad stack a ticket has the text %q", text)
		}
		for _, text := range []string{"", "1 0 55020", "1  55020", "x", "1 0:5 44195", "0  0"} {
			if x, code := impl.ReadTicket(s, text); x != (impl.Ticket{}) || code != impl.ErrInvalid {
				t.Errorf("ReadTicket of a bad stack and %q is %v, %d", text, x, code)
			}
		}
	}
	next := numbersFrom(3)
	for _, s := range append(turnstileStacks(), ten, clock, wheels8()) {
		size, _ := impl.SizeOf(s)
		for i := range 200 {
			number := 1 + next([]int64{5, 300, 70000, impl.MaxTickets}[i%4])
			shows, _ := impl.DigitsOf(s, (next(1<<30)*1000+next(1000))%size)
			want := fmt.Sprintf("%d %s %d", number, impl.DigitsText(s, shows), checkByWords(number, shows))
			if text := impl.TicketText(s, printed(number, shows)); text != want {
				t.Errorf("TicketText of %d and %v is %q, want %q", number, shows, text, want)
			}
			if x, code := impl.ReadTicket(s, want); x != printed(number, shows) || code != impl.OK {
				t.Errorf("ReadTicket(%q) = %v, %d", want, x, code)
			}
		}
	}
}

func TestTicketTextsThatAreNone(t *testing.T) {
	ten := impl.Stack{10, 10}
	texts := []string{
		"", " ", "  ", "1", "1 ", "1 0:5", "1 0:5 ", "0:5 44195", " 0:5 44195", "1  44195", "1 44195", "44195", // what is missing
		"1 0:5 44194", "1 0:5 44196", "2 0:5 44195", "1 0:6 44195", "1 5:0 44195", "1 0:5 0", "1 0:5 1", // not genuine
		"1 0:5 44195 ", " 1 0:5 44195", "1  0:5 44195", "1 0:5  44195", "1 0:5 44195\n", "\n1 0:5 44195", "1 0:5 44195 7", "1\t0:5\t44195", "1 0:5\n44195", "1 0:5 44195 1 0:5 44195",
		"01 0:5 44195", "1 0:5 044195", "+1 0:5 44195", "1 0:5 +44195", "-1 0:5 44195", "1 0:5 -44195", "1 0:5 109731", "1 0:5 -21341", // zeros and signs ahead, or what wraps
		"1 00:05 44195", "1 0:05 44195", "1 5 44195", "1 :5 44195", "1 0:0:5 44195", "1 0:10 44195", "1 0:-5 44195", "1 0: 5 44195", "1 0.5 44195", "1 05 44195",
		"0 0:5 44195", fmt.Sprint("0 0:5 ", checkByWords(0, impl.Digits{5})), fmt.Sprint("1000001 0:5 ", checkByWords(1000001, impl.Digits{5})), "4294967297 0:5 44195", "18446744073709551617 0:5 44195",
		fmt.Sprint("-1 0:5 ", wrappedCheck(-1, impl.Digits{5})), fmt.Sprint("1 0:10 ", checkByWords(1, impl.Digits{10})), fmt.Sprint("1 10:0 ", checkByWords(1, impl.Digits{0, 10})), fmt.Sprint("1 1:0:5 ", checkByWords(1, impl.Digits{5, 0, 1})),
		"x 0:5 44195", "1 x 44195", "1 0:5 x", "1 0:5 44195x", "1x 0:5 44195", "0x1 0:5 44195", "1 0:5 0xaca3", "1.0 0:5 44195", "1 0:5 44195.0", "1_0 0:5 44195", "1,0:5,44195", "1:0:5:44195", "٣ 0:5 44195", "1 0:5 44195\x00", "\xff",
	}
	for _, text := range texts {
		if x, code := impl.ReadTicket(ten, text); x != (impl.Ticket{}) || code != impl.ErrSyntax {
			t.Errorf("ReadTicket(%q) = %v, %d", text, x, code)
		}
	}
	for check := range 70000 {
		x, code := impl.ReadTicket(ten, fmt.Sprint("1 0:5 ", check))
		if (check == 44195) != (code == impl.OK) || code != impl.OK && (x != impl.Ticket{} || code != impl.ErrSyntax) {
			t.Fatalf("with the check %d: %v, %d", check, x, code)
		}
	}
	for _, part := range []string{"1", "0", " ", "0:5 ", ":", "\x00", "-", "\n"} {
		long := strings.Repeat(part, 1000000/len(part))
		for _, text := range []string{long, "1 0:5 44195" + long, long + "1 0:5 44195", "1 " + long + " 44195", "1 0:5 " + long, long + " 0:5 44195"} {
			if x, code := impl.ReadTicket(ten, text); x != (impl.Ticket{}) || code != impl.ErrSyntax {
				t.Errorf("ReadTicket of many %q gives %v, %d", part, x, code)
			}
		}
	}
}
