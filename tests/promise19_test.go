package tests

import (
	"slices"
	"testing"

	"loop.example/g01278/impl"
)

// drive has a train, and what is driven by the same flow with the ratio of the train,
// beginning at the same value of the same stack.
type drive struct {
	train  impl.Train
	meter  impl.Meter
	motion impl.Motion
	device impl.Device
}

func driveOf(t *testing.T, list impl.Train, m impl.Motion, start int64) drive {
	t.Helper()
	r := mustRatio(t, list)
	d, code := impl.NewDevice(m.Stack)
	if code == impl.OK {
		d, _, code = impl.DoAct(d, pulse(start))
	}
	x := drive{train: list, meter: meter(m.Stack, r.P, r.Q, start), motion: m, device: d}
	if !impl.ValidMeter(x.meter) || !impl.ValidMotion(m) || code != impl.OK {
		t.Fatalf("%v cannot be driven: %d", x, code)
	}
	return x
}

// driveTrains have ratios that a meter may have.
func driveTrains() []impl.Train {
	return []impl.Train{train(8, 8), train(8, 80), train(10, 20, 15, 45), train(20, 30), train(44, 14), train(120, 8), train(8, 120), train(9, 8, 8, 9, 13, 13), train(8, 80, 8, 80), train(113, 119), train(97, 8, 8, 101)}
}

// driveMotions have a stack each, and joints of every kind.
func driveMotions() []impl.Motion {
	return []impl.Motion{
		motion(impl.Stack{2}), motion(impl.Stack{3, 4}, late(0)), motion(impl.Stack{10, 10}, even()), motion(impl.Stack{2, 3, 2}, late(500), even()),
		motion(impl.Stack{60, 60, 24}, late(900), late(900)), fullMotion(), limitMotion(), motion(wheels8(), even(), late(0), late(1), late(998), even(), late(7), late(500)),
	}
}

// behind is what all agree on behind a flow.
type behind struct {
	flow, count   int64
	value, rounds int64
	shows         impl.Digits
}

// checkAgree checks that all have the same count behind a flow, and returns it.
func (x drive) checkAgree(t *testing.T, flow int64) behind {
	t.Helper()
	s, start := x.meter.Stack, x.meter.Start
	count, one := impl.DrivenCount(x.train, flow)
	counted, two := impl.CountAfter(x.meter, flow)
	value, rounds, three := impl.ShowsAfter(x.meter, flow)
	if count != counted || one != impl.OK || two != impl.OK || three != impl.OK {
		t.Fatalf("%v behind %d: the train has %d, %d, and the meter %d, %d", x, flow, count, one, counted, two)
	}
	if off, code := impl.OffAfter(x.train, mustRatio(t, x.train), flow); off != 0 || code != impl.OK {
		t.Fatalf("%v behind %d is off by %d, %d", x, flow, off, code)
	}
	first, _ := impl.DigitsOf(s, start)
	shows, code := impl.DigitsOf(s, value)
	sum, over, code2 := impl.AddTo(s, first, count)
	if sum != shows || over != rounds || code != impl.OK || code2 != impl.OK {
		t.Fatalf("%v behind %d shows %v and %d rounds, but %d more than %d are %v and %d rounds", x, flow, shows, rounds, count, start, sum, over)
	}
	d, lost, code := impl.DoAct(x.device, pulse(count))
	if d.Shows != shows || lost != 0 || d.Stopped || code != impl.OK {
		t.Fatalf("%v behind %d: the device is %v, and has lost %d, %d", x, flow, d, lost, code)
	}
	if back, _, code := impl.DoAct(d, pulseBack(count)); !sameDevice(back, x.device) || code != impl.OK {
		t.Fatalf("%v behind %d and back: the device is %v, %d", x, flow, back, code)
	}
	all := behind{flow: flow, count: count, value: value, rounds: rounds, shows: shows}
	x.checkTurned(t, all)
	x.checkReadings(t, all)
	x.checkPhotos(t, all)
	return all
}

// checkTurned checks what eyes read of the motion that has been turned by the count.
func (x drive) checkTurned(t *testing.T, b behind) {
	t.Helper()
	start := x.meter.Start
	turn, over, code := impl.TurnBy(x.motion, start*impl.Res, b.count*impl.Res)
	if turn != b.value*impl.Res || over != b.rounds || code != impl.OK {
		t.Fatalf("%v behind %d: the turn is %d, over by %d, %d", x, b.flow, turn, over, code)
	}
	for _, more := range []int64{0, 1, 250, 499, 500, 999} { // up to the next count
		p, code := impl.PartsAt(x.motion, turn+more)
		read, code2 := impl.EyeReads(x.motion, p, impl.EyDown)
		right, code3 := impl.RightDigits(x.motion, turn+more)
		from, code4 := impl.RightFrom(x.motion, p)
		if read != b.shows || right != b.shows || from != b.shows || max(code, code2, code3, code4) != impl.OK {
			t.Fatalf("%v behind %d and %d parts: read is %v, right %v and %v, but shown %v", x, b.flow, more, read, right, from, b.shows)
		}
		if len(x.meter.Stack) > 1 { // a wheel that is a little off
			bumped, _ := impl.BumpParts(x.motion, p, 1, []int64{499, -499}[more%2])
			if from, code := impl.RightFrom(x.motion, bumped); from != b.shows || code != impl.OK {
				t.Fatalf("%v behind %d and %d parts, bumped: right is %v, %d, but shown %v", x, b.flow, more, from, code, b.shows)
			}
		}
		near, _ := impl.EyeReads(x.motion, p, impl.EyNear)
		one, _ := impl.PhotoOf(x.motion.Stack, read)
		two, _ := impl.PhotoOf(x.motion.Stack, near)
		both, code := impl.JoinPhotos(x.motion.Stack, one, two)
		if shown, code2 := impl.Shows(x.motion.Stack, both, b.shows); !shown || code != impl.OK || code2 != impl.OK {
			t.Fatalf("%v behind %d and %d parts: %v is not in the photo of both eyes, %d, %d", x, b.flow, more, b.shows, code, code2)
		}
	}
}

// checkReadings checks which counts are possible from the start to the value.
func (x drive) checkReadings(t *testing.T, b behind) {
	t.Helper()
	s := x.meter.Stack
	size, _ := impl.SizeOf(s)
	days := b.count/impl.MaxFlow + 1
	one, two := reading(5, x.meter.Start), reading(5+days, b.value)
	each := b.count / days
	least, greatest, code := impl.CountsBetween(s, one, two, flow(each, each+1))
	if least > b.count || greatest < b.count || (b.count-least)%size != 0 || (greatest-b.count)%size != 0 || code != impl.OK {
		t.Fatalf("%v behind %d: possible are %d to %d, %d, but the count is %d", x, b.flow, least, greatest, code, b.count)
	}
	low, high, code := impl.RoundsBetween(s, one, two, flow(each, each+1))
	if low != b.rounds-(b.count-least)/size || high != b.rounds+(greatest-b.count)/size || code != impl.OK {
		t.Fatalf("%v behind %d: the rounds are %d to %d, %d, but %d are counted", x, b.flow, low, high, code, b.rounds)
	}
	if back, code := impl.SetBackBy(s, one, two, flow(each, each+1)); back != 0 || code != impl.OK {
		t.Fatalf("%v behind %d has been set back by %d, %d", x, b.flow, back, code)
	}
	if days > 1 {
		return
	}
	least, greatest, code = impl.CountsBetween(s, one, two, flow(b.count, b.count)) // this count alone
	if least != b.count || greatest != b.count || code != impl.OK {
		t.Fatalf("%v behind %d: possible are %d to %d, %d, but the count is %d", x, b.flow, least, greatest, code, b.count)
	}
}

// checkPhotos checks what is told of photos of the start and of the value.
func (x drive) checkPhotos(t *testing.T, b behind) {
	t.Helper()
	s := x.meter.Stack
	first, _ := impl.DigitsOf(s, x.meter.Start)
	p, _ := impl.PhotoOf(s, first)
	q, code := impl.PhotoOf(s, b.shows)
	values, code2 := impl.ValuesIn(s, q)
	if !slices.Equal(values, []int64{b.value}) || code != impl.OK || code2 != impl.OK {
		t.Fatalf("%v behind %d: in the photo are %v, %d, %d, want %d", x, b.flow, values, code, code2, b.value)
	}
	// If it has not gone round, there is one way, by the count.
	list, want := []impl.Photo{p, q}, int64(1)
	if b.rounds > 0 {
		want = 0
	}
	if ways, code := impl.WaysThrough(s, list, b.count, b.count); ways != want || code != impl.OK {
		t.Fatalf("%v behind %d: there are %d ways, %d, want %d", x, b.flow, ways, code, want)
	}
	if way, code := impl.CheckWay(s, list, []int64{x.meter.Start, b.value}, 0, b.count); way != (b.value >= x.meter.Start) || code != impl.OK {
		t.Fatalf("%v behind %d: %d and %d are a way: %t, %d", x, b.flow, x.meter.Start, b.value, way, code)
	}
	// With the wheel 0 in doubt, the value is one of as many as this has digits.
	blank, _ := impl.BlankPhoto(s)
	q[0] = blank[0]
	if n, code := impl.NextIn(s, q, b.value); n != b.value || code != impl.OK {
		t.Fatalf("%v behind %d: the next value in the photo is %d, %d, want %d", x, b.flow, n, code, b.value)
	}
	if n, code := impl.ChoicesOf(s, q); n != int64(s[0]) || code != impl.OK {
		t.Fatalf("%v behind %d: there are %d choices, %d", x, b.flow, n, code)
	}
}

// TestPromise19Driven drives all by one unit of a flow at a time, and asks what they tell.
func TestPromise19Driven(t *testing.T) {
	for _, list := range driveTrains() {
		for _, m := range driveMotions()[:4] {
			size, _ := impl.SizeOf(m.Stack)
			for _, start := range []int64{0, size / 2, size - 1} {
				x := driveOf(t, list, m, start)
				box, counter := boxOf(list), turbineOf(x.meter)
				gate := turnstileOf(x.device)
				for flow := range int64(150) {
					b := x.checkAgree(t, flow)
					if b.count != box.turns || b.count != counter.count || b.shows != counter.shows || b.rounds != counter.rounds || b.shows != gate.shows || b.rounds != gate.rounds {
						t.Fatalf("%v behind %d: %v, but driven one by one %d, %d, %v and %d rounds, and %v and %d rounds", x, flow, b, box.turns, counter.count, counter.shows, counter.rounds, gate.shows, gate.rounds)
					}
					before := counter.count
					box.on()
					counter.drive()
					gate.pulses(counter.count-before, gate.up)
				}
			}
		}
	}
}

// TestPromise19Great has great flows, and great stacks.
func TestPromise19Great(t *testing.T) {
	flows := []int64{0, 1, 2, 9, 10, 999, 86399, 86400, 1000000, 123456789, impl.MaxTerm - 1, impl.MaxTerm}
	for i := range int64(20) {
		flows = append(flows, i*i*i*15485863*31%impl.MaxTerm)
	}
	for _, list := range driveTrains() {
		for _, m := range driveMotions() {
			size, _ := impl.SizeOf(m.Stack)
			for _, start := range []int64{0, 1, size / 3, size - 1} {
				x := driveOf(t, list, m, start)
				for _, flow := range flows {
					b := x.checkAgree(t, flow)
					low, high, code := impl.FlowsFor(x.meter, b.rounds, b.value)
					if low > flow || high < flow || code != impl.OK {
						t.Fatalf("%v: %d and %d rounds are shown behind %d to %d, %d, but also behind %d", x, b.value, b.rounds, low, high, code, flow)
					}
				}
			}
		}
	}
}

// TestPromise19Wheels drives each wheel of a stack by trains, with a pair for each base.
func TestPromise19Wheels(t *testing.T) {
	for _, s := range []impl.Stack{{10, 10, 10, 10, 10}, {2, 3, 5, 7, 2}, {15, 15, 15, 15, 3}, {10, 6, 10, 6, 12}, {12, 2}} {
		d, _ := impl.NewDevice(s)
		for _, count := range []int64{0, 1, 9, 10, 99, 100, 359, 360, 3600, 12345, 999999, impl.MaxTerm} {
			moves, code := impl.MovesOf(s, impl.Digits{}, count)
			behind, _, code2 := impl.DoAct(d, pulse(count))
			if moves[0] != count || code != impl.OK || code2 != impl.OK {
				t.Fatalf("%v behind %d: %v, %d, %d", s, count, moves, code, code2)
			}
			var list impl.Train
			for i, base := range s[:min(len(s)-1, 4)] {
				list = append(list, impl.Pair{Driver: 8, Driven: 8 * int16(base)})
				turns, code := impl.DrivenCount(list, count)
				if turns != moves[i+1] || uint8(turns%int64(s[i+1])) != behind.Shows[i+1] || code != impl.OK {
					t.Fatalf("%v behind %d: the wheel %d has moved by %d, and shows %v, but the train %v has turned by %d, %d", s, count, i+1, moves[i+1], behind.Shows, list, turns, code)
				}
				// At its place the wheel comes to 1, and not before.
				place, _ := impl.PlaceOf(s, int64(i)+1)
				first, _ := impl.DrivenCount(list, place)
				if before, _ := impl.DrivenCount(list, place-1); first != 1 || before != 0 {
					t.Fatalf("%v: the train %v has turned by %d behind %d, and by %d before", s, list, first, place, before)
				}
			}
		}
	}
}

// TestPromise19Stops has devices with a Preset: they stop with the pulse that makes the
// meter show it first.
func TestPromise19Stops(t *testing.T) {
	checked := 0
	for _, list := range driveTrains() {
		r := mustRatio(t, list)
		for _, m := range driveMotions() {
			size, _ := impl.SizeOf(m.Stack)
			for _, start := range []int64{0, size / 3, size - 1} {
				for _, stop := range []int64{0, 1, size / 2, size - 1} {
					x := driveOf(t, list, m, start)
					d, _, code := impl.DoAct(x.device, presetTo(stop))
					until, code2 := impl.PulsesUntilStop(d)
					forward, _, _ := impl.WayTo(m.Stack, x.device.Shows, device(m.Stack, stop, -1).Shows)
					if d.Stopped != (start == stop) || until != forward || code != impl.OK || code2 != impl.OK {
						t.Fatalf("%v with the Preset %d: %v, %d, and %d pulses until then, %d, want %d", x, stop, d, code, until, code2, forward)
					}
					rounds := int64(0)
					if stop < start {
						rounds = 1
					}
					low, _, code := impl.FlowsFor(x.meter, rounds, stop)
					if r.P <= r.Q && size < 1000000 && code != impl.OK {
						t.Fatalf("%v never shows %d, though it passes over no count: %d", x, stop, code)
					}
					if code == impl.OK && low <= impl.MaxTerm {
						checked++
						checkStops(t, x, d, low, until)
					}
				}
			}
		}
	}
	if checked < 500 {
		t.Errorf("%d devices have been stopped", checked)
	}
}

// checkStops checks that a device stops with the pulses of a flow, but not with those of
// one less; what comes behind is lost, and counted by the meter alone.
func checkStops(t *testing.T, x drive, d impl.Device, low, until int64) {
	t.Helper()
	count, _ := impl.CountAfter(x.meter, low)
	if behind, lost, _ := impl.DoAct(d, pulse(count)); count != until || !behind.Stopped || lost != 0 {
		t.Fatalf("%v behind the flow %d: %v, which has lost %d of %d pulses, want %d", x, low, behind, lost, count, until)
	}
	if low > 0 {
		count, _ := impl.CountAfter(x.meter, low-1)
		if behind, lost, _ := impl.DoAct(d, pulse(count)); behind.Stopped || lost != 0 {
			t.Fatalf("%v behind the flow %d: %v, which has lost %d of %d pulses", x, low-1, behind, lost, count)
		}
	}
	more, _ := impl.DrivenCount(x.train, min(2*low+100, impl.MaxTerm))
	if behind, lost, _ := impl.DoAct(d, pulse(more)); !behind.Stopped || lost != more-until {
		t.Fatalf("%v with %d pulses: %v, which has lost %d", x, more, behind, lost)
	}
}

// TestPromise19Logs reads a device day by day, and prints a ticket each time.
func TestPromise19Logs(t *testing.T) {
	for _, list := range driveTrains() {
		for i, m := range driveMotions() {
			size, _ := impl.SizeOf(m.Stack)
			x := driveOf(t, list, m, size-1)
			for _, each := range []int64{0, 1, 7, 50, 4000} {
				x.checkDays(t, each, 12+int64(i))
			}
		}
	}
}

// checkDays lets the same flow go each day, and checks what logs, photos, totals and
// tickets tell of it.
func (x drive) checkDays(t *testing.T, each, days int64) {
	t.Helper()
	s, d := x.meter.Stack, x.device
	size, _ := impl.SizeOf(s)
	log, photos, counts, printed := []impl.Reading{}, []impl.Photo{}, []int64{}, []impl.Ticket{}
	sum := int64(0)
	for day := range days {
		count, _ := impl.DrivenCount(x.train, each*day)
		counts = append(counts, count-sum)
		var one impl.Ticket
		var code, code2 int64
		d, _, code = impl.DoAct(d, pulse(count-sum))
		d, one, code2 = impl.PrintTicket(d)
		if code != impl.OK || code2 != impl.OK {
			t.Fatalf("%v on the day %d: %d, %d", x, day, code, code2)
		}
		sum = count
		value, _ := impl.ValueOf(s, d.Shows)
		p, _ := impl.PhotoOf(s, one.Shows)
		log, photos, printed = append(log, reading(day, value)), append(photos, p), append(printed, one)
	}
	ticketsInOrder(t, x.device, printed)
	least, most := slices.Min(counts[1:]), slices.Max(counts)
	if most > impl.MaxFlow {
		t.Fatalf("%v: %d are counted in a day", x, most)
	}
	story, code := impl.BestStory(s, log, flow(least, most))
	if len(story.Kept) != len(log) || story.Cost != 0 || code != impl.OK {
		t.Fatalf("%v: the story of %v with %d to %d is %v, %d", x, log, least, most, story, code)
	}
	low, high, code := impl.TotalOfStory(s, log, flow(least, most), story)
	if low > sum || high < sum || code != impl.OK {
		t.Fatalf("%v: the total of %v is %d to %d, %d, but the count %d", x, log, low, high, code, sum)
	}
	if most < size { // all rounds can be seen
		x.checkSeen(t, log, photos, counts)
	}
}

// checkSeen checks what is told of a log and of photos, day by day, if less than a size is
// counted each day, and the first one has just the greatest value.
func (x drive) checkSeen(t *testing.T, log []impl.Reading, photos []impl.Photo, counts []int64) {
	t.Helper()
	s := x.meter.Stack
	size, _ := impl.SizeOf(s)
	least, most, sum := slices.Min(counts[1:]), slices.Max(counts), sumOf(counts)
	tight, code := impl.TightestFlow(s, log, impl.MaxFlow)
	if tight != flow(least, most) || code != impl.OK {
		t.Fatalf("%v: the tightest flow of %v is %v, %d, want %d to %d", x, log, tight, code, least, most)
	}
	list, code := impl.TotalsFrom(s, log)
	if (size-1+sum > impl.MaxCount) != (code == impl.ErrLimit) {
		t.Fatalf("%v: the totals of %v are %v, %d", x, log, list, code)
	}
	if code == impl.OK {
		grown, code := impl.CountsByDay(list)
		if !slices.Equal(grown, counts[1:]) || code != impl.OK {
			t.Fatalf("%v: the totals of %v grow by %v, %d, want %v", x, log, grown, code, counts[1:])
		}
	}
	if counts[1] == 0 {
		return
	}
	// With its first count it goes round, and then there is a way until it does so again.
	at, code := impl.FirstStuck(s, photos[1:], least, most)
	if again := sum > size; again != (code == impl.OK) || !again && code != impl.ErrNotFound {
		t.Fatalf("%v: the photos of %v are stuck at %d, %d", x, log, at, code)
	}
}

// TestPromise19Portions finds the ratio of a train again, from what two meters of one
// flow have counted.
func TestPromise19Portions(t *testing.T) {
	for _, list := range driveTrains() {
		r := mustRatio(t, list)
		var pairs [][2]int64
		for i := range int64(60) {
			flow := []int64{1, 2, 3, 7, 60, 113, 999, 6000}[i%8] + i*3
			count, code := impl.DrivenCount(list, flow)
			if count > impl.MaxPair || code != impl.OK {
				continue
			}
			pairs = append(pairs, [2]int64{flow, count})
		}
		low, high, code := impl.PortionBounds(pairs)
		if low.P*r.Q > r.P*low.Q || high.P*r.Q <= r.P*high.Q || code != impl.OK {
			t.Fatalf("the train %v has the ratio %v, but the bounds of %v are %v and %v, %d", list, r, pairs, low, high, code)
		}
		found, code := impl.FindPortion(pairs)
		if found != portion(r.P, r.Q) || code != impl.OK {
			t.Fatalf("the train %v has the ratio %v, but found is %v, %d", list, r, found, code)
		}
		m := meter(impl.Stack{10, 10}, found.P, found.Q, 0)
		for flow := range int64(2000) {
			one, _ := impl.CountAfter(m, flow)
			if two, _ := impl.DrivenCount(list, flow); one != two {
				t.Fatalf("the meter %v has counted %d behind %d, and the train %v %d", m, one, flow, list, two)
			}
		}
	}
}
