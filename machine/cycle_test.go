package machine

import (
	"slices"
	"testing"

	"perilune/api"
)

// plus returns pulses PulsePlus of counters.
func plus(at ...int) []api.Pulse {
	var l []api.Pulse
	for _, a := range at {
		l = append(l, api.Pulse{At: a, Kind: api.PulsePlus})
	}
	return l
}

// request requests pulses.
func request(t *testing.T, m *Machine, l ...api.Pulse) {
	t.Helper()
	for _, p := range l {
		ok(t, m.Pulse(p))
	}
}

// spoil spoils a word.
func spoil(t *testing.T, m *Machine, space api.Space, at, bit int) {
	t.Helper()
	ok(t, m.Spoil(api.Spot{Space: space, At: at}, bit))
}

// poke writes erasable words from an address on.
func poke(t *testing.T, m *Machine, at int, l ...api.Word) {
	t.Helper()
	for i, w := range l {
		ok(t, m.Poke(at+i, w))
	}
}

// loop returns n times CA 100, and then a transfer of control to the first of them at the address at.
func loop(at, n int) part {
	return place(at, append(filled(n, code("CA", 100)), code("TCF", at))...)
}

// TestTick tests P8.2: the pulses of the timers, in a cycle of an activity and in one between two of them.
func TestTick(t *testing.T) {
	m := build(t, 16, loop(2048, 1000))
	run(t, m, 15)
	checkList(t, m.Waiting(), nil, "Waiting after 15 cycles")
	cycles(t, m, done("CA"))
	checkList(t, m.Waiting(), plus(21, 22, 23, 24), "Waiting after 16 cycles")
	cycles(t, m, pulsed(21), pulsed(22), pulsed(23), pulsed(24), fetch())
	run(t, m, 10)
	cycles(t, m, done("CA"), pulsed(21), pulsed(22), pulsed(23), pulsed(24), fetch())

	m = build(t, 17, loop(2048, 1000))
	run(t, m, 16)
	cycles(t, m, pulsed(21))
	checkList(t, m.Waiting(), plus(22, 23, 24), "Waiting after 17 cycles")
	cycles(t, m, pulsed(22), pulsed(23), pulsed(24), fetch())
}

// TestTicks tests P8.2: the number of ticks, also with restarts, which do not count as the end of a tick.
func TestTicks(t *testing.T) {
	for _, tick := range []int{16, 100, 1000, 4095, 4096} {
		m := build(t, tick, loop(2048, 1000))
		for i := range 10 {
			run(t, m, tick-1)
			checkPeek(t, m, 21, api.Word(i))
			ok(t, m.Restart())
			run(t, m, 1)
			if i%2 == 1 {
				ok(t, m.Restart())
			}
		}
		run(t, m, 5)
		for at := 20; at <= 25; at++ {
			checkPeek(t, m, at, [6]api.Word{0, 10, 10, 10, 10, 0}[at-20])
		}
	}
}

// TestTickFull tests P8.2 and P8.8: a tick that comes while the queue is full or nearly so.
func TestTickFull(t *testing.T) {
	for n := 58; n <= 64; n++ {
		l := plus(slices.Repeat([]int{47}, n)...)
		taken := min(4, 64-n)
		m := build(t, 16, loop(2048, 1000))
		run(t, m, 15)
		request(t, m, l...)
		cycles(t, m, done("CA"))
		want := append(slices.Clone(l), plus(21, 22, 23, 24)[:taken]...)
		checkList(t, m.Waiting(), want, "Waiting after a tick in an activity", n)

		m = build(t, 17, loop(2048, 1000))
		run(t, m, 16)
		request(t, m, l...)
		want = append(slices.Clone(l), plus(21, 22, 23, 24)[:taken]...)
		if taken > 0 {
			cycles(t, m, pulsed(21))
			want = slices.Delete(want, n, n+1)
		} else {
			cycles(t, m, pulsed(47))
			want = want[1:]
		}
		checkList(t, m.Waiting(), want, "Waiting after a tick between activities", n)
	}
}

// TestServe tests P8.2: the order in which requests are served, and their words.
func TestServe(t *testing.T) {
	m := build(t, 4096, loop(2048, 1000))
	poke(t, m, 30, 16383, 5, 32767, 0, 1, 20000, 3)
	request(t, m, plus(31, 30)...)
	request(t, m, api.Pulse{At: 31, Kind: api.PulseMinus}, api.Pulse{At: 20, Kind: api.PulseMinusTwos},
		api.Pulse{At: 47, Kind: api.PulseShift1}, api.Pulse{At: 32, Kind: api.PulsePlusTwos},
		api.Pulse{At: 34, Kind: api.PulseDiminish}, api.Pulse{At: 35, Kind: api.PulseShift0})
	cycles(t, m, pulsed(20), pulsed(30), pulsed(31))
	checkPeek(t, m, 20, 32767)
	checkPeek(t, m, 30, 0)
	checkPeek(t, m, 31, 6)
	request(t, m, api.Pulse{At: 36, Kind: api.PulseShift1})
	cycles(t, m, pulsed(31), pulsed(32), pulsed(34), pulsed(35), pulsed(36), pulsed(47), fetch())
	for i, w := range []api.Word{0, 5, 0, 0, 0, 7232, 7} {
		checkPeek(t, m, 30+i, w)
	}
	checkPeek(t, m, 47, 1)
	checkCounts(t, m, [3]int{10, 0, 0})
}

// TestAfter tests P8.2: what the overflows of counters cause.
func TestAfter(t *testing.T) {
	m := build(t, 4096, loop(2048, 1000))
	poke(t, m, 20, 16383, 16383)
	request(t, m, plus(21, 22)...)
	cycles(t, m, pulsed(21))
	checkList(t, m.Waiting(), plus(22, 20), "Waiting after the overflow of TIME1")
	cycles(t, m, pulsed(20), pulsed(22), fetch())
	checkPeek(t, m, 20, 0)
	checkPeek(t, m, 21, 0)

	m = build(t, 4096, loop(2048, 1000))
	poke(t, m, 21, 16383)
	request(t, m, plus(append(slices.Repeat([]int{47}, 63), 21)...)...)
	cycles(t, m, pulsed(21), pulsed(20), pulsed(47))
	check(t, len(m.Waiting()), 62, "length of Waiting")

	for _, x := range []struct {
		p    api.Pulse
		w    api.Word
		rupt int
	}{
		{api.Pulse{At: 22, Kind: api.PulsePlus}, 16383, 3},
		{api.Pulse{At: 23, Kind: api.PulsePlus}, 16383, 4},
		{api.Pulse{At: 24, Kind: api.PulsePlus}, 16383, 2},
		{api.Pulse{At: 37, Kind: api.PulseShift1}, 16384, 7},
		{api.Pulse{At: 37, Kind: api.PulseShift0}, 32767, 7},
		{api.Pulse{At: 25, Kind: api.PulseDiminish}, 0, 1},
		{api.Pulse{At: 25, Kind: api.PulseDiminish}, 1, 0},
		{api.Pulse{At: 25, Kind: api.PulsePlus}, 0, 0},
		{api.Pulse{At: 20, Kind: api.PulsePlus}, 16383, 0},
		{api.Pulse{At: 22, Kind: api.PulsePlus}, 16382, 0},
		{api.Pulse{At: 22, Kind: api.PulseMinus}, 16384, 0},
		{api.Pulse{At: 26, Kind: api.PulsePlus}, 16383, 0},
		{api.Pulse{At: 36, Kind: api.PulseShift1}, 16384, 0},
	} {
		m := build(t, 4096, loop(2048, 1000))
		poke(t, m, x.p.At, x.w)
		request(t, m, x.p)
		cycles(t, m, pulsed(x.p.At), fetch())
		if x.rupt > 0 {
			cycles(t, m, fetch(), entered(x.rupt))
		} else {
			cycles(t, m, done("CA"), fetch(), done("CA"))
		}
	}
}

// TestSpoiltCounter tests P8.2 and P8.8: a spoilt word that is a counter's cell. The request stays in the queue, and causes nothing but a restart in each cycle until the word is right again, by Poke or by Spoil.
func TestSpoiltCounter(t *testing.T) {
	for bit := range 16 {
		for _, repair := range []func(m *Machine){
			func(m *Machine) { poke(t, m, 22, 16383) },
			func(m *Machine) { spoil(t, m, api.SpaceErasable, 22, bit) },
		} {
			m := build(t, 4096, loop(2048, 1000))
			run(t, m, 4)
			poke(t, m, 22, 16383)
			spoil(t, m, api.SpaceErasable, 22, bit)
			request(t, m, plus(30, 22, 31, 22)...)
			words := m.Words()
			for i := range 3 {
				cycles(t, m, restarted(api.CauseParity))
				checkList(t, m.Waiting(), plus(30, 22, 31, 22), "Waiting after a restart")
				checkBad(t, m, 22)
				checkList(t, m.Words(), words, "Words after a restart")
				check(t, m.Regs(), api.Regs{Z: 2048}, "Regs after a restart")
				checkCounts(t, m, [3]int{5 + i, 2, 1 + i})
			}
			repair(m)
			cycles(t, m, pulsed(22), pulsed(22), pulsed(30), pulsed(31), fetch(), fetch(), entered(3))
			checkPeek(t, m, 22, 1)
			checkPeek(t, m, 30, 1)
			checkPeek(t, m, 31, 1)
		}
	}
}

// TestSpoiltOrder tests P8.2: the requests of lesser counters are served before a spoilt one, also those that come later, in their order; and a restart by hand leaves the queue.
func TestSpoiltOrder(t *testing.T) {
	m := build(t, 4096, loop(2048, 1000))
	spoil(t, m, api.SpaceErasable, 30, 15)
	minus := api.Pulse{At: 30, Kind: api.PulseMinus}
	double := api.Pulse{At: 30, Kind: api.PulseShift0}
	request(t, m, plus(40, 30)...)
	request(t, m, double)
	cycles(t, m, restarted(api.CauseParity))
	request(t, m, plus(26)...)
	cycles(t, m, pulsed(26), restarted(api.CauseParity))
	request(t, m, minus)
	ok(t, m.Restart())
	cycles(t, m, restarted(api.CauseParity))
	checkList(t, m.Waiting(), append(plus(40, 30), double, minus), "Waiting")
	poke(t, m, 30, 100)
	cycles(t, m, pulsed(30), pulsed(30), pulsed(30), pulsed(40), fetch(), done("CA"))
	checkPeek(t, m, 30, 201)
	checkCounts(t, m, [3]int{10, 1, 4})
}

// TestSpoiltFull tests P8.2 and P8.8: while a spoilt counter keeps the queue full, the pulses of the ticks are lost, and no others.
func TestSpoiltFull(t *testing.T) {
	m := build(t, 16, loop(2048, 1000))
	spoil(t, m, api.SpaceErasable, 21, 0)
	for range 64 {
		request(t, m, plus(21)...)
	}
	for range 40 {
		cycles(t, m, restarted(api.CauseParity))
	}
	check(t, m.Pulse(plus(22)[0]), api.ErrFull, "Pulse")
	checkList(t, m.Waiting(), plus(slices.Repeat([]int{21}, 64)...), "Waiting")
	poke(t, m, 21, 0)
	for range 7 {
		cycles(t, m, pulsed(21))
	}
	checkPeek(t, m, 21, 7)
	check(t, len(m.Waiting()), 57, "length of Waiting")
}

// TestSpoiltElsewhere tests P8.2: requests of other counters do not read a spoilt word, and a request is served before an instruction of wrong parity is read.
func TestSpoiltElsewhere(t *testing.T) {
	m := build(t, 4096, loop(2048, 1000))
	spoil(t, m, api.SpaceErasable, 22, 0)
	spoil(t, m, api.SpaceFixed, 2048, 0)
	ok(t, m.Interrupt(3))
	request(t, m, plus(21, 23)...)
	cycles(t, m, pulsed(21), pulsed(23), restarted(api.CauseParity), restarted(api.CauseParity))
	checkBad(t, m, 22)
	checkPeek(t, m, 21, 1)
}

// long returns a machine with a DXCH, which takes 3 cycles, a DV, which takes 6, and interrupt programs.
func long(t *testing.T) *Machine {
	t.Helper()
	parts := []part{place(2048, code("DXCH", 100), code("EXTEND", 0), code("DV", 102), code("DXCH", 104), code("TCF", 2048))}
	for n := 2; n <= 10; n++ { // the last word lies where the program of interrupt 1 would begin
		parts = append(parts, place(2048+4*n, code("INCR", 60+n), code("RESUME", 0)))
	}
	m := build(t, 4096, parts...)
	poke(t, m, 100, 0, 17, 5, 0, 1000, 2000)
	return m
}

// longStatuses returns what each cycle of that machine does: the interrupt begins before the second DXCH if there is one.
func longStatuses(n int) []api.Status {
	l := []api.Status{fetch(), fetch(), done("DXCH"), done("EXTEND"), fetch(), fetch(), fetch(), fetch(), fetch(), done("DV")}
	if n > 0 {
		l = append(l, fetch(), fetch(), entered(n), fetch(), done("INCR"), fetch(), done("RESUME"))
	}
	return append(l, fetch(), fetch(), done("DXCH"), done("TCF"))
}

// boundaries holds the cycles of longStatuses(3) before which there is no activity.
func boundaries() []int { return []int{0, 3, 4, 10, 13, 15, 17, 20} }

// TestActivities tests P8.2 and P8.7: the registers and cells change in the last cycle of each activity, and not before.
func TestActivities(t *testing.T) {
	m := long(t)
	ok(t, m.Interrupt(3))
	m.Restart() // the interrupt is forgotten
	regs := []api.Regs{
		{Z: 2048},
		{Z: 2049, L: 17},
		{Z: 2050, L: 17, Extended: true},
		{Z: 2051, A: 3, L: 2},
		{Z: 2060, A: 3, L: 2, Serving: true},
		{Z: 2061, A: 3, L: 2, Serving: true},
		{Z: 2051, A: 3, L: 2, Held: true, B: code("DXCH", 104)},
		{Z: 2052, A: 1000, L: 2000},
	}
	cells := [][]api.Cell{{}, {{At: 101, W: 0}}, {}, {}, {{At: 13, W: 2051}, {At: 15, W: code("DXCH", 104)}}, {{At: 63, W: 1}}, {}, {{At: 104, W: 3}, {At: 105, W: 2}}}
	words := m.Words()
	for i, want := range longStatuses(3)[:20] {
		if i == 9 {
			ok(t, m.Interrupt(3))
		}
		now := 0
		for j, b := range boundaries() {
			if b <= i {
				now = j
			}
		}
		if boundaries()[now] == i {
			for _, c := range cells[now] {
				words[c.At] = c.W
			}
		}
		check(t, m.Regs(), regs[now], "Regs before the cycle", i)
		checkList(t, m.Words(), words, "Words before the cycle", i)
		cycles(t, m, want)
	}
	check(t, m.Regs(), regs[7], "Regs")
	checkPeek(t, m, 104, 3)
	checkPeek(t, m, 105, 2)
}

// longAt returns that machine after n cycles, and what it does in all cycles. From the cycle 4 on, the interrupt 3 is pending, which EXTEND bars then.
func longAt(t *testing.T, n int) (*Machine, []api.Status) {
	t.Helper()
	m := long(t)
	if n < 4 {
		cycles(t, m, longStatuses(0)[:n]...)
		return m, longStatuses(0)
	}
	cycles(t, m, longStatuses(3)[:4]...)
	ok(t, m.Interrupt(3))
	cycles(t, m, longStatuses(3)[4:n]...)
	return m, longStatuses(3)
}

// TestPulseInEachCycle tests P8.2 and P8.8: a request waits for the end of the activity, and changes nothing else.
func TestPulseInEachCycle(t *testing.T) {
	for n := range 21 {
		m, want := longAt(t, n)
		request(t, m, plus(31, 30)...)
		next := n
		for !slices.Contains(boundaries(), next) {
			next++
		}
		cycles(t, m, want[n:next]...)
		checkList(t, m.Waiting(), plus(31, 30), "Waiting in the cycle", next)
		cycles(t, m, pulsed(30), pulsed(31))
		cycles(t, m, want[next:]...)
		checkPeek(t, m, 30, 1)
		checkPeek(t, m, 31, 1)
		checkPeek(t, m, 104, 3)
		checkPeek(t, m, 105, 2)
		check(t, m.Regs(), api.Regs{A: 1000, L: 2000, Z: 2048}, "Regs", n)
	}
}

// TestInterruptInEachCycle tests P8.2: an interrupt that is requested in each cycle of an instruction begins where it is allowed.
func TestInterruptInEachCycle(t *testing.T) {
	for n := range 14 {
		m := long(t)
		all := longStatuses(0)
		cycles(t, m, all[:n]...)
		ok(t, m.Interrupt(3))
		next := n
		for next != 0 && next != 3 && next != 10 && next != 13 && next != 14 { // not after EXTEND
			next++
		}
		cycles(t, m, all[n:next]...)
		z := m.Regs().Z
		cycles(t, m, fetch(), fetch(), entered(3))
		check(t, m.Regs().Z, 2060, "Regs: Z", n)
		check(t, m.Regs().Serving, true, "Regs: Serving", n)
		checkPeek(t, m, 13, api.Word(z))
		checkPeek(t, m, 15, []api.Word{0: code("DXCH", 100), 1: code("EXTEND", 0), 3: code("DXCH", 104), 4: code("TCF", 2048)}[z-2048])
		cycles(t, m, fetch(), done("INCR"), fetch(), done("RESUME"))
		cycles(t, m, all[next:]...)
		checkPeek(t, m, 104, 3)
		checkPeek(t, m, 105, 2)
		check(t, m.Regs().A, 1000, "Regs: A", n)
	}
}

// TestInterruptInBeginning tests P8.2: interrupts that are requested before and while another one begins, also the same one, which is not pending any more from its first cycle on.
func TestInterruptInBeginning(t *testing.T) {
	for n := range 4 {
		for _, other := range []int{1, 3, 10} {
			order := []int{3, other}
			if n == 0 {
				slices.Sort(order)
				order = slices.Compact(order)
			}
			var want []api.Status
			for i, r := range order {
				want = append(want, fetch(), fetch(), entered(r), fetch(), done("INCR"), fetch(), done("RESUME"))
				want = append(want, fetch(), done([]string{"INCR", "CA"}[i]))
			}
			m := busy(t)
			ok(t, m.Interrupt(3))
			cycles(t, m, want[:n]...)
			ok(t, m.Interrupt(other))
			cycles(t, m, want[n:]...)
			run(t, m, 40)
			var times [11]api.Word
			for _, r := range order {
				times[r]++
			}
			for r := 1; r <= 10; r++ {
				checkPeek(t, m, 60+r, times[r])
			}
		}
	}
}

// TestRestartInEachCycle tests P8.4 and P8.8: a restart ends each activity without effect, and leaves erasable memory as it is.
func TestRestartInEachCycle(t *testing.T) {
	for n := range 21 {
		m, _ := longAt(t, n)
		ok(t, m.Interrupt(10))
		request(t, m, plus(31, 30)...)
		before := see(t, m)
		ok(t, m.Restart())
		before.regs.Z = 2048
		before.regs.Extended, before.regs.Held, before.regs.Serving, before.regs.B = false, false, false, 0
		before.counts[2]++
		check(t, see(t, m) == before, true, "whether a restart leaves the rest", n)
		cycles(t, m, pulsed(30), pulsed(31), fetch(), fetch(), done("DXCH"), done("EXTEND"))
	}
}

// registersProgram gives values to all registers that a restart leaves, and inhibits interrupts.
func registersProgram() []part {
	return []part{
		place(2048,
			code("CA", 3000), code("TS", 3), // EB
			code("CA", 3001), code("TS", 4), // FB
			code("CA", 3002), code("EXTEND", 0), code("WRITE", 7), // Super
			code("CA", 3003), code("TS", 2), // Q
			code("CA", 3004), code("TS", 1), // L
			code("CA", 3005), code("AD", 3005), // A, with overflow
			code("INHINT", 0), code("EXTEND", 0)),
		place(3000, 1280, 9216, 48, 16500, 300, 16383),
	}
}

// TestRegisters tests P8.5 and P8.6: the registers as channels and as erasable words, with words above them and without.
func TestRegisters(t *testing.T) {
	m := build(t, 4096, registersProgram()...)
	run(t, m, 25)
	want := api.Regs{A: 32766, L: 300, Q: 16500, Z: 2061, EB: 5, FB: 9, Super: 3}
	check(t, m.Regs(), want, "Regs")
	for at, w := range []api.Word{16382, 300, 16500, 1280, 9216, 2061, 9221, 0} {
		checkPeek(t, m, at, w)
		check(t, m.Words()[at], 0, "word of Words", at)
	}
	checkOutput(t, m, 1, 300)
	checkOutput(t, m, 2, 16500)
	checkOutput(t, m, 7, 48)
	for _, ch := range []int{1, 2, 7} {
		check(t, m.Input(ch, 5), api.ErrArg, "Input", ch)
	}
	check(t, m.Regs(), want, "Regs after Input")
}

// channelsRestarted holds the channels that a restart clears.
func channelsRestarted() []int { return []int{5, 6, 8, 9, 10, 11, 12, 13, 14} }

// TestRestart tests P8.4: what a restart changes, and what it leaves, after each instruction of a program that sets all registers.
func TestRestart(t *testing.T) {
	for n := range 28 {
		m := build(t, 4096, registersProgram()...)
		run(t, m, n)
		for ch := range 512 {
			m.Input(ch, api.Word(20000+ch))
		}
		spoil(t, m, api.SpaceErasable, 500, 3)
		request(t, m, plus(40, 40, 33)...)
		ok(t, m.Interrupt(5))
		want := see(t, m)
		for _, ch := range channelsRestarted() {
			want.channels[ch] = 0
		}
		r := want.regs
		want.regs = api.Regs{A: r.A, L: r.L, Q: r.Q, EB: r.EB, FB: r.FB, Super: r.Super, Z: 2048}
		want.counts[2] = 1
		ok(t, m.Restart())
		check(t, see(t, m) == want, true, "whether the machine is right after Restart", n)
		cycles(t, m, pulsed(33), pulsed(40), pulsed(40), fetch(), done("CA"))
		ok(t, m.Restart())
		checkCounts(t, m, [3]int{n + 5, want.counts[1] + 1, 2})
	}
}

// TestRestartFlags tests P8.4: the states between two instructions that a restart ends.
func TestRestartFlags(t *testing.T) {
	for _, x := range []struct {
		first []api.Word
		n     int
		before,
		after api.Regs
	}{
		{[]api.Word{code("EXTEND", 0)}, 1, api.Regs{Z: 2049, Extended: true}, api.Regs{Z: 2048}},
		{[]api.Word{code("INHINT", 0)}, 1, api.Regs{Z: 2049, Inhibit: true}, api.Regs{Z: 2048}},
		{[]api.Word{code("INDEX", 100)}, 2, api.Regs{Z: 2049, Index: 7}, api.Regs{Z: 2048}},
		{[]api.Word{code("TC", 2049), code("TC", 2)}, 2, api.Regs{Z: 2, Q: 2050, Held: true, B: 2049}, api.Regs{Z: 2048, Q: 2050}},
	} {
		m := build(t, 4096, place(2048, x.first...))
		poke(t, m, 100, 7)
		run(t, m, x.n)
		check(t, m.Regs(), x.before, "Regs before Restart")
		ok(t, m.Restart())
		check(t, m.Regs(), x.after, "Regs after Restart")
	}
	m := busy(t)
	ok(t, m.Interrupt(4))
	run(t, m, 3)
	check(t, m.Regs(), api.Regs{Z: 2064, Serving: true}, "Regs in an interrupt")
	ok(t, m.Restart())
	check(t, m.Regs(), api.Regs{Z: 2048}, "Regs after Restart")
	cycles(t, m, fetch(), done("INCR"), fetch(), done("CA"))
}

// TestBarred tests P8.2: an interrupt waits while the registers bar it.
func TestBarred(t *testing.T) {
	m := build(t, 4096,
		place(2048, code("INHINT", 0), code("CA", 3000), code("RELINT", 0),
			code("AD", 3000), code("CA", 3000), code("INDEX", 100), code("CA", 3000),
			code("EXTEND", 0), code("READ", 5), code("TC", 2058), code("TC", 2)),
		place(2088, code("RESUME", 0)),
		place(3000, 16383, 1))
	poke(t, m, 100, 1)
	ok(t, m.Interrupt(10))
	cycles(t, m, fetch(), fetch(), entered(10))
	ok(t, m.Interrupt(10)) // while it is served
	cycles(t, m, fetch(), done("RESUME"), done("INHINT"))
	cycles(t, m, fetch(), done("CA"), done("RELINT"), fetch(), fetch(), entered(10))
	ok(t, m.Interrupt(10))
	cycles(t, m, fetch(), done("RESUME"), fetch(), done("AD"), fetch(), done("CA"), fetch(), fetch(), entered(10))
	ok(t, m.Interrupt(10))
	cycles(t, m, fetch(), done("RESUME"), fetch(), done("INDEX"), fetch(), done("CA"), fetch(), fetch(), entered(10))
	ok(t, m.Interrupt(10))
	cycles(t, m, fetch(), done("RESUME"), done("EXTEND"), fetch(), done("READ"), fetch(), fetch(), entered(10))
	cycles(t, m, fetch(), done("RESUME"), done("TC"), done("TC"))
	ok(t, m.Interrupt(10))
	check(t, m.Regs().Held, true, "Regs: Held")
	cycles(t, m, done("TC"), fetch(), fetch(), entered(10))
}

// TestPriority tests P8.2: pulses are served before interrupts begin, and the least interrupt begins first.
func TestPriority(t *testing.T) {
	m := busy(t)
	for n := 10; n >= 1; n-- {
		ok(t, m.Interrupt(n))
	}
	request(t, m, plus(47)...)
	cycles(t, m, pulsed(47))
	loop := []string{"INCR", "CA"}
	for n := 1; n <= 10; n++ {
		cycles(t, m, fetch(), fetch(), entered(n), fetch(), done("INCR"), fetch(), done("RESUME"))
		if n%3 == 0 {
			cycles(t, m, done("TCF"))
		} else {
			cycles(t, m, fetch(), done(loop[n%3-1]))
		}
		checkPeek(t, m, 60+n, 1)
	}
	run(t, m, 100)
	for n := 1; n <= 10; n++ {
		checkPeek(t, m, 60+n, 1)
	}
}

// TestInterruptAtRegister tests P8.2: an interrupt saves the next instruction from a register, as cpu.Load reads it.
func TestInterruptAtRegister(t *testing.T) {
	for z, want := range []api.Word{0: 16382, 1: 300, 2: 16500, 3: 1280, 4: 9216, 5: 5, 6: 9221, 7: 0} {
		p := registersProgram()
		if z == 1 { // L keeps its word, and A becomes Z
			p[0].words = append(p[0].words[:11], code("CA", 3006), code("TS", 5))
			p[1].words = append(p[1].words, 1)
		} else { // L becomes Z
			p[0].words = append(p[0].words[:11], code("CA", 3006), code("LXCH", 5))
			p[1].words[4] = api.Word(z)
			p[1].words = append(p[1].words, 16382)
		}
		m := build(t, 4096, p...)
		run(t, m, 25)
		check(t, m.Regs().Z, z, "Regs: Z")
		ok(t, m.Interrupt(6))
		cycles(t, m, fetch(), fetch(), entered(6))
		checkPeek(t, m, 13, api.Word(z))
		checkPeek(t, m, 15, want)
	}
}

// TestInterruptFaults tests P8.2: an interrupt before an instruction whose word does not exist or has wrong parity. A request is served first, and the interrupt does not begin.
func TestInterruptFaults(t *testing.T) {
	for bit := range 16 {
		m := busy(t)
		spoil(t, m, api.SpaceFixed, 2048, bit)
		ok(t, m.Interrupt(3))
		request(t, m, plus(47)...)
		cycles(t, m, pulsed(47), restarted(api.CauseParity))
		spoil(t, m, api.SpaceFixed, 2048, bit)
		cycles(t, m, fetch(), done("INCR"), fetch(), done("CA"))
		checkPeek(t, m, 13, 0)
		checkPeek(t, m, 15, 0)
	}
	m := build(t, 4096, place(2048, code("TC", 300)))
	poke(t, m, 300, code("CA", 100))
	spoil(t, m, api.SpaceErasable, 300, 15)
	run(t, m, 1)
	ok(t, m.Interrupt(3))
	cycles(t, m, restarted(api.CauseParity), done("TC"), restarted(api.CauseParity))

	m = missing(t, code("TC", 1030))
	run(t, m, 8)
	ok(t, m.Interrupt(3))
	request(t, m, plus(47)...)
	cycles(t, m, pulsed(47), restarted(api.CauseBank), fetch(), done("CA"))
	checkPeek(t, m, 13, 0)
}

// missing returns a machine that selects a bank that does not exist in its first 7 cycles, and then executes these words.
func missing(t *testing.T, words ...api.Word) *Machine {
	t.Helper()
	m := build(t, 4096,
		place(2048, append([]api.Word{code("CA", 3000), code("TS", 4), code("EXTEND", 0), code("WRITE", 7)}, words...)...),
		place(3000, 28*1024+64)) // Super 4 stands in the same word
	return m
}

// TestMissing tests P8.2: instructions whose words do not exist, their own and their operand's, before those with wrong parity.
func TestMissing(t *testing.T) {
	m := missing(t, code("TCF", 1030))
	run(t, m, 7)
	check(t, m.Regs(), api.Regs{A: 61504, Z: 2052, FB: 28, Super: 4}, "Regs")
	cycles(t, m, done("TCF"), restarted(api.CauseBank))
	check(t, m.Regs(), api.Regs{A: 61504, Z: 2048, FB: 28, Super: 4}, "Regs after a restart")
	checkCounts(t, m, [3]int{9, 5, 1})

	for _, l := range [][]api.Word{
		{code("CA", 1024)}, {code("CA", 2047)}, {code("AD", 1500)}, {code("MASK", 1500)}, {code("CS", 1500)},
		{code("EXTEND", 0), code("DCA", 1500)}, {code("EXTEND", 0), code("MP", 1500)}, {code("EXTEND", 0), code("XINDEX", 1500)},
	} {
		m := missing(t, l...)
		run(t, m, 7)
		for range l[1:] {
			cycles(t, m, done("EXTEND"))
		}
		c := m.Copy()
		before := m.Words()
		cycles(t, m, restarted(api.CauseBank))
		checkList(t, m.Words(), before, "Words after a restart")
		spoil(t, c, api.SpaceFixed, 2052+len(l)-1, 0)
		request(t, c, plus(47)...)
		cycles(t, c, pulsed(47), restarted(api.CauseBank))
	}
}

// TestMissingUnread tests P8.2: operands that are not read need no word, and unswitched ones have one.
func TestMissingUnread(t *testing.T) {
	m := missing(t, code("EXTEND", 0), code("BZF", 1030), code("CA", 2048), code("TC", 1030))
	run(t, m, 7)
	cycles(t, m, done("EXTEND"), fetch(), done("BZF"), fetch(), done("CA"), done("TC"), restarted(api.CauseBank))
	check(t, m.Regs().Q, 2056, "Regs: Q")
}

// TestParity tests P8.2: each word that an instruction reads, its own first, in both memories.
func TestParity(t *testing.T) {
	for _, x := range []struct {
		name     string
		extended bool
		k        int
		reads    []int
	}{
		{"CA", false, 100, []int{100}},
		{"CS", false, 2047 + 953, []int{-3000}},
		{"CCS", false, 100, []int{100}},
		{"INCR", false, 100, []int{100}},
		{"ADS", false, 100, []int{100}},
		{"XCH", false, 100, []int{100}},
		{"LXCH", false, 100, []int{100}},
		{"DAS", false, 100, []int{100, 101}},
		{"DXCH", false, 100, []int{100, 101}},
		{"INDEX", false, 100, []int{100}},
		{"RESUME", false, 0, []int{13, 15}},
		{"DCA", true, 3000, []int{-3000, -3001}},
		{"DCS", true, 100, []int{100, 101}},
		{"MP", true, 100, []int{100}},
		{"DV", true, 100, []int{100}},
		{"QXCH", true, 100, []int{100}},
		{"TS", false, 100, nil},
		{"TC", false, 100, nil},
		{"READ", true, 100, nil},
		{"CA", false, 1, nil},
	} {
		words := []api.Word{code(x.name, x.k)}
		own := 2048
		if x.extended {
			words = append([]api.Word{code("EXTEND", 0)}, words...)
			own++
		}
		m := build(t, 4096, place(2048, words...), place(3000, 5, 6))
		run(t, m, len(words)-1)
		otherwise, _ := m.Copy().Cycle()
		for bit := range 16 {
			for _, at := range append([]int{-own}, x.reads...) {
				checkParity(t, m.Copy(), at, bit, restarted(api.CauseParity))
			}
			for at := 98; at < 105; at++ {
				if !slices.Contains(x.reads, at) {
					checkParity(t, m.Copy(), at, bit, otherwise)
				}
			}
		}
	}
}

// checkParity checks the status of the next cycle if an erasable word, or a fixed one if at is negative, is spoilt.
func checkParity(t *testing.T, m *Machine, at, bit int, want api.Status) {
	t.Helper()
	if at < 0 {
		spoil(t, m, api.SpaceFixed, -at, bit)
	} else {
		spoil(t, m, api.SpaceErasable, at, bit)
	}
	before := m.Words()
	n, completed, _ := m.Counts()
	cycles(t, m, want)
	if want.Kind == api.StatusRestart {
		checkList(t, m.Words(), before, "Words after a restart")
		checkCounts(t, m, [3]int{n + 1, completed, 1})
	}
}

// TestRepair tests P8.2 and P8.8: cells that an instruction or an interrupt writes have right parity afterwards, and not before.
func TestRepair(t *testing.T) {
	m := build(t, 4096, place(2048, code("TS", 100), code("CA", 100), code("TCF", 2048)), place(2060, code("RESUME", 0)))
	spoil(t, m, api.SpaceErasable, 100, 3)
	cycles(t, m, fetch())
	checkBad(t, m, 100)
	cycles(t, m, done("TS"), fetch(), done("CA"))
	checkPeek(t, m, 100, 0)
	spoil(t, m, api.SpaceErasable, 13, 3)
	spoil(t, m, api.SpaceErasable, 15, 15)
	ok(t, m.Interrupt(3))
	cycles(t, m, fetch(), fetch())
	checkBad(t, m, 13)
	checkBad(t, m, 15)
	cycles(t, m, entered(3))
	checkPeek(t, m, 13, 2050)
	checkPeek(t, m, 15, code("TCF", 2048))
	cycles(t, m, fetch(), done("RESUME"), done("TCF"))
}

// TestHeld tests P8.2: the word of an instruction that is held is not read.
func TestHeld(t *testing.T) {
	m := build(t, 4096, place(2048, code("CA", 100), code("TCF", 2048)), place(2060, code("RESUME", 0)))
	ok(t, m.Interrupt(3))
	cycles(t, m, fetch(), fetch(), entered(3), fetch(), done("RESUME"))
	spoil(t, m, api.SpaceFixed, 2048, 0)
	cycles(t, m, fetch(), done("CA"), done("TCF"), restarted(api.CauseParity))
}

// TestDetermined tests P8.2: an instruction's effect is determined when it begins.
func TestDetermined(t *testing.T) {
	m := build(t, 4096, place(2048, code("CA", 100), code("INCR", 100), code("EXTEND", 0), code("READ", 5)))
	poke(t, m, 100, 7)
	cycles(t, m, fetch())
	poke(t, m, 100, 9)
	cycles(t, m, done("CA"))
	check(t, m.Regs().A, 7, "Regs: A")
	cycles(t, m, fetch())
	spoil(t, m, api.SpaceErasable, 100, 1)
	poke(t, m, 101, 11)
	cycles(t, m, done("INCR"))
	checkPeek(t, m, 100, 10)
	checkPeek(t, m, 101, 11)
	ok(t, m.Input(5, 3))
	cycles(t, m, done("EXTEND"), fetch())
	ok(t, m.Input(5, 4))
	cycles(t, m, done("READ"))
	check(t, m.Regs().A, 3, "Regs: A")
}

// TestWrite tests P8.2: channels that instructions write, in the last cycle.
func TestWrite(t *testing.T) {
	m := build(t, 4096, place(2048, code("CA", 3000), code("EXTEND", 0), code("WRITE", 300), code("EXTEND", 0), code("WOR", 5), code("EXTEND", 0), code("WRITE", 1)), place(3000, 20001))
	ok(t, m.Input(5, 6))
	run(t, m, 4)
	checkOutput(t, m, 300, 0)
	cycles(t, m, done("WRITE"))
	checkOutput(t, m, 300, 20001)
	run(t, m, 3)
	checkOutput(t, m, 5, 20007)
	run(t, m, 3)
	checkOutput(t, m, 1, 20007)
	check(t, m.Regs().L, 20007, "Regs: L")
	ok(t, m.Restart())
	checkOutput(t, m, 5, 0)
	checkOutput(t, m, 300, 20001)
	checkOutput(t, m, 1, 20007)
}

// TestBranches tests P8.2: the cycles of BZF and BZMF.
func TestBranches(t *testing.T) {
	m := build(t, 4096, place(2048, code("EXTEND", 0), code("BZF", 2050), code("CA", 3000), code("EXTEND", 0), code("BZF", 2048), code("EXTEND", 0), code("BZMF", 2048)), place(3000, 5))
	cycles(t, m, done("EXTEND"), done("BZF"), fetch(), done("CA"), done("EXTEND"), fetch(), done("BZF"), done("EXTEND"), fetch(), done("BZMF"))
}
