package machine

import (
	"math"
	"slices"
	"testing"

	"perilune/api"
	"perilune/isa"
)

// check reports a result that is not the one wanted.
func check[T comparable](t *testing.T, got, want T, call string, args ...any) {
	t.Helper()
	if got != want {
		t.Fatalf("%s of %v = %v, want %v", call, args, got, want)
	}
}

// checkList reports a list that is not the one wanted.
func checkList[T comparable](t *testing.T, got, want []T, call string, args ...any) {
	t.Helper()
	if !slices.Equal(got, want) {
		t.Fatalf("%s of %v = %v, want %v", call, args, got, want)
	}
}

// code returns the word of an instruction.
func code(name string, k int) api.Word {
	o, e := isa.Find(name)
	w, f := isa.Encode(o, k)
	if e != api.OK || f != api.OK {
		panic("no instruction " + name)
	}
	return w
}

// opOf returns the Code of an instruction.
func opOf(name string) api.OpCode {
	return api.OpCode(slices.Index(isa.Names(), name) + 1)
}

// part is a piece of fixed memory.
type part struct {
	at    int
	words []api.Word
}

// place returns a piece of fixed memory.
func place(at int, words ...api.Word) part { return part{at, words} }

// filled returns n equal words.
func filled(n int, w api.Word) []api.Word { return slices.Repeat([]api.Word{w}, n) }

// banksOf returns all banks of fixed memory with these pieces.
func banksOf(parts ...part) []api.Bank {
	all := make([]api.Word, api.FixedWords)
	for _, p := range parts {
		copy(all[p.at:], p.words)
	}
	var l []api.Bank
	for n := range api.FBanks {
		l = append(l, api.Bank{Number: n, Words: all[1024*n : 1024*n+1024]})
	}
	return l
}

// build returns a new machine with these pieces of fixed memory.
func build(t *testing.T, tick int, parts ...part) *Machine {
	t.Helper()
	m, e := New(banksOf(parts...), tick)
	if m == nil || e != api.OK {
		t.Fatalf("New with the tick %d: %v, %v", tick, m, e)
	}
	return m
}

// The statuses.

func fetch() api.Status { return api.Status{Kind: api.StatusFetch} }

func done(name string) api.Status { return api.Status{Kind: api.StatusDone, Op: opOf(name)} }

func pulsed(at int) api.Status { return api.Status{Kind: api.StatusPulse, N: at} }

func entered(n int) api.Status { return api.Status{Kind: api.StatusRupt, N: n} }

func restarted(cause int) api.Status { return api.Status{Kind: api.StatusRestart, N: cause} }

// cycles performs cycles, and compares their statuses.
func cycles(t *testing.T, m *Machine, want ...api.Status) {
	t.Helper()
	for i, x := range want {
		s, e := m.Cycle()
		check(t, e, api.OK, "error of Cycle", i)
		check(t, s, x, "Cycle", i)
	}
}

// run performs n cycles, in which no restart happens.
func run(t *testing.T, m *Machine, n int) {
	t.Helper()
	count, s, e := m.Run(n)
	if count != n || e != api.OK || s.Kind == api.StatusRestart {
		t.Fatalf("Run(%d) = %d, %v, %v", n, count, s, e)
	}
}

// ok reports an error of a call that has none.
func ok(t *testing.T, e api.Errno) {
	t.Helper()
	check(t, e, api.OK, "error")
}

// checkPeek compares the word at an erasable address, or of a register.
func checkPeek(t *testing.T, m *Machine, at int, want api.Word) {
	t.Helper()
	w, e := m.Peek(at)
	check(t, e, api.OK, "error of Peek", at)
	check(t, w, want, "Peek", at)
}

// checkBad checks that the parity at an erasable address is not right.
func checkBad(t *testing.T, m *Machine, at int) {
	t.Helper()
	w, e := m.Peek(at)
	check(t, e, api.ErrParity, "error of Peek", at)
	check(t, w, 0, "Peek", at)
}

// checkOutput compares the word of a channel.
func checkOutput(t *testing.T, m *Machine, ch int, want api.Word) {
	t.Helper()
	w, e := m.Output(ch)
	check(t, e, api.OK, "error of Output", ch)
	check(t, w, want, "Output", ch)
}

// checkCounts compares the counts.
func checkCounts(t *testing.T, m *Machine, want [3]int) {
	t.Helper()
	var got [3]int
	got[0], got[1], got[2] = m.Counts()
	check(t, got, want, "Counts")
}

// seen is what can be seen of a machine from outside without a cycle.
type seen struct {
	regs     api.Regs
	words    [2048]api.Word
	bad      [2048]bool
	channels [512]api.Word
	queue    [64]api.Pulse
	waiting  int
	counts   [3]int
}

// see returns what can be seen of a machine.
func see(t *testing.T, m *Machine) seen {
	t.Helper()
	s := seen{regs: m.Regs(), waiting: len(m.Waiting())}
	check(t, copy(s.words[:], m.Words()), 2048, "length of Words")
	for at := range s.bad {
		_, e := m.Peek(at)
		s.bad[at] = e != api.OK
	}
	for ch := range s.channels {
		s.channels[ch], _ = m.Output(ch)
	}
	copy(s.queue[:], m.Waiting())
	s.counts[0], s.counts[1], s.counts[2] = m.Counts()
	return s
}

// differAfter returns after how many cycles two machines look or act differently, and -1 if they do not within n cycles. The machines themselves stay as they are.
func differAfter(t *testing.T, a, b *Machine, n int) int {
	t.Helper()
	a, b = a.Copy(), b.Copy()
	for i := range n + 1 {
		x, _ := a.Cycle()
		y, _ := b.Cycle()
		if x != y || see(t, a) != see(t, b) {
			return i
		}
	}
	return -1
}

// checkSame checks that two machines look the same now, and in each of the next n cycles.
func checkSame(t *testing.T, a, b *Machine, n int) {
	t.Helper()
	check(t, see(t, a) == see(t, b), true, "whether the machines look the same")
	check(t, differAfter(t, a, b, n), -1, "cycles after which the machines differ")
}

// example returns the machine of the chapter's section Examples.
func example(t *testing.T) *Machine {
	t.Helper()
	m, e := New([]api.Bank{{Number: 2, Words: []api.Word{12388, 22629, 6144}}}, 4096)
	ok(t, e)
	ok(t, m.Poke(100, 7))
	return m
}

// TestExamples tests the rows of the chapter's section Examples.
func TestExamples(t *testing.T) {
	m := example(t)
	cycles(t, m, fetch(), done("CA"), fetch(), done("TS"), done("TCF"))
	checkPeek(t, m, 101, 7)
	checkPeek(t, m, 0, 7)
	check(t, m.Regs().Z, 2048, "Regs: Z")
	checkCounts(t, m, [3]int{5, 3, 0})
	ok(t, m.Pulse(api.Pulse{At: 31, Kind: api.PulsePlus}))
	cycles(t, m, pulsed(31))
	checkPeek(t, m, 31, 1)
	ok(t, m.Spoil(api.Spot{Space: api.SpaceFixed, At: 2048}, 3))
	cycles(t, m, restarted(api.CauseParity))
	checkCounts(t, m, [3]int{7, 3, 1})
}

// TestNew tests P8.1: the state of a new machine.
func TestNew(t *testing.T) {
	for _, tick := range []int{16, 17, 100, 4095, 4096} {
		m := build(t, tick)
		check(t, see(t, m), seen{regs: api.Regs{Z: 2048}}, "a new machine with the tick", tick)
		m, e := New(nil, tick)
		ok(t, e)
		check(t, see(t, m), seen{regs: api.Regs{Z: 2048}}, "a new machine of no banks with the tick", tick)
	}
}

// TestNewErrors tests P8.1: the errors and their order.
func TestNewErrors(t *testing.T) {
	one := []api.Word{5}
	for _, x := range []struct {
		l    []api.Bank
		code api.Errno
	}{
		{nil, api.OK},
		{[]api.Bank{{Number: 0, Words: filled(1024, 32767)}, {Number: 35}}, api.OK},
		{[]api.Bank{{Number: -1, Words: one}}, api.ErrRange},
		{[]api.Bank{{Number: 36, Words: one}}, api.ErrRange},
		{[]api.Bank{{Number: 2, Words: one}, {Number: 2}}, api.ErrDuplicate},
		{[]api.Bank{{Number: 2, Words: filled(1025, 0)}}, api.ErrLimit},
		{[]api.Bank{{Number: 2, Words: []api.Word{1, 32768}}}, api.ErrRange},
	} {
		for _, tick := range []int{-1, 0, 1, 15, 16, 4096, 4097, math.MinInt, math.MaxInt, 1<<32 + 100} {
			code := x.code
			if tick < 16 || tick > 4096 {
				code = api.ErrArg
			}
			m, e := New(x.l, tick)
			check(t, e, code, "error of New", x.l, tick)
			check(t, m != nil, code == api.OK, "whether there is a machine", x.l, tick)
		}
	}
}

// TestNewMemory tests P8.1 with DOC.md's rule 5: the banks are neither changed nor kept.
func TestNewMemory(t *testing.T) {
	words := append([]api.Word{12388, 22629, 6144}, 1, 2, 3)
	l := []api.Bank{{Number: 2, Words: words[:3]}}
	m, e := New(l, 4096)
	ok(t, e)
	words[0], l[0].Number = 6144, 5
	checkList(t, words, []api.Word{6144, 22629, 6144, 1, 2, 3}, "words passed to New")
	cycles(t, m, fetch(), done("CA"))
	ok(t, m.Spoil(api.Spot{Space: api.SpaceFixed, At: 2049}, 0))
	checkList(t, words, []api.Word{6144, 22629, 6144, 1, 2, 3}, "words passed to New after Spoil")
}

// TestNone tests P8.1 to P8.7: a nil and a zero machine in every method.
func TestNone(t *testing.T) {
	for _, m := range []*Machine{nil, {}, new(Machine)} {
		s, e := m.Cycle()
		check(t, s, api.Status{}, "Cycle")
		check(t, e, api.ErrNil, "error of Cycle")
		for _, n := range []int{-1, 0, 1, api.MaxCycles, api.MaxCycles + 1} {
			count, s, e := m.Run(n)
			check(t, count, 0, "Run", n)
			check(t, s, api.Status{}, "status of Run", n)
			check(t, e, api.ErrNil, "error of Run", n)
		}
		for _, at := range []int{-1, 0, 1, 8, 31, 100, 600, 3000} {
			check(t, m.Pulse(api.Pulse{At: at, Kind: api.PulsePlus}), api.ErrNil, "Pulse", at)
			check(t, m.Interrupt(at), api.ErrNil, "Interrupt", at)
			check(t, m.Input(at, 5), api.ErrNil, "Input", at)
			w, e := m.Output(at)
			check(t, w, 0, "Output", at)
			check(t, e, api.ErrNil, "error of Output", at)
			w, e = m.Peek(at)
			check(t, w, 0, "Peek", at)
			check(t, e, api.ErrNil, "error of Peek", at)
			check(t, m.Poke(at, 5), api.ErrNil, "Poke", at)
			for _, space := range []api.Space{0, 1, 2, 3} {
				check(t, m.Spoil(api.Spot{Space: space, At: at}, at), api.ErrNil, "Spoil", space, at)
			}
		}
		check(t, m.Restart(), api.ErrNil, "Restart")
		check(t, m.Regs(), api.Regs{}, "Regs")
		check(t, len(m.Words()), 0, "length of Words")
		check(t, len(m.Waiting()), 0, "length of Waiting")
		checkCounts(t, m, [3]int{})
		check(t, m.Copy() == nil, true, "whether Copy is nil")
	}
}

// TestRun tests P8.3: the numbers of cycles, and what Run returns.
func TestRun(t *testing.T) {
	m := example(t)
	for _, n := range []int{-1, -5, math.MinInt, api.MaxCycles + 1, math.MaxInt, 1<<32 + 1} {
		count, s, e := m.Run(n)
		check(t, count, 0, "Run", n)
		check(t, s, api.Status{}, "status of Run", n)
		check(t, e, api.ErrArg, "error of Run", n)
	}
	checkSame(t, m, example(t), 10)
	total, loop := 0, []api.Status{done("TCF"), fetch(), done("CA"), fetch(), done("TS")}
	for n := range 20 {
		count, s, e := m.Run(n)
		check(t, count, n, "Run", n)
		ok(t, e)
		total += n
		want := api.Status{}
		if n > 0 {
			want = loop[total%5]
		}
		check(t, s, want, "status of Run", n)
		checkCounts(t, m, [3]int{total, total/5*3 + []int{0, 0, 1, 1, 2}[total%5], 0})
	}
}

// TestRunRestart tests P8.3: a restart ends a run, and counts as one of its cycles.
func TestRunRestart(t *testing.T) {
	for _, limit := range []int{64, 65, 1000, api.MaxCycles} {
		m := build(t, 4096, place(2048, code("TCF", 2048)))
		run(t, m, 0)
		count, s, e := m.Run(limit)
		check(t, count, 64, "Run", limit)
		check(t, s, restarted(api.CauseTrap), "status of Run", limit)
		ok(t, e)
		checkCounts(t, m, [3]int{64, 64, 1})
		count, s, _ = m.Run(limit)
		check(t, count, 64, "the second Run", limit)
		check(t, s, restarted(api.CauseTrap), "status of the second Run", limit)
	}
}

// TestRunMost tests P8.3: the greatest number of cycles.
func TestRunMost(t *testing.T) {
	m := example(t)
	run(t, m, api.MaxCycles)
	n, _, restarts := m.Counts()
	check(t, n, 1<<20, "number of cycles")
	check(t, restarts, 0, "number of restarts")
	checkPeek(t, m, 21, 256)
}

// TestPulse tests P8.4: what the queue takes, and the errors.
func TestPulse(t *testing.T) {
	m := example(t)
	var want []api.Pulse
	for at := -20; at < 70; at++ {
		for kind := range api.PulseKind(10) {
			p, code := api.Pulse{At: at, Kind: kind}, api.OK
			switch {
			case at < 20 || at > 47:
				code = api.ErrRange
			case kind < 1 || kind > 7:
				code = api.ErrArg
			case len(want) == 64:
				code = api.ErrFull
			default:
				want = append(want, p)
			}
			check(t, m.Pulse(p), code, "Pulse", p, len(want))
			checkList(t, m.Waiting(), want, "Waiting after Pulse", p)
		}
	}
	for _, at := range []int{math.MinInt, math.MaxInt, 1<<32 + 30, 1<<8 + 30} {
		check(t, m.Pulse(api.Pulse{At: at, Kind: 1}), api.ErrRange, "Pulse", at)
	}
	checkCounts(t, m, [3]int{})
}

// TestInterrupt tests P8.4: the numbers of interrupts, and that an error has no effect.
func TestInterrupt(t *testing.T) {
	for n := -20; n < 80; n++ {
		m := example(t)
		if n >= 1 && n <= 10 {
			ok(t, m.Interrupt(n))
			ok(t, m.Interrupt(n))
			cycles(t, m, fetch(), fetch(), entered(n))
			check(t, m.Regs(), api.Regs{Z: 2048 + 4*n, Serving: true}, "Regs after the interrupt", n)
			continue
		}
		check(t, m.Interrupt(n), api.ErrRange, "Interrupt", n)
		checkSame(t, m, example(t), 10)
	}
	m := example(t)
	for _, n := range []int{math.MinInt, math.MaxInt, 1<<32 + 5, 1<<16 + 5} {
		check(t, m.Interrupt(n), api.ErrRange, "Interrupt", n)
	}
	checkSame(t, m, example(t), 10)
	ok(t, m.Interrupt(7))
	check(t, m.Interrupt(11), api.ErrRange, "Interrupt")
	cycles(t, m, fetch(), fetch(), entered(7))
}

// TestChannels tests P8.5: all channels, and those that are none.
func TestChannels(t *testing.T) {
	m := build(t, 4096)
	for ch := range 512 {
		want, code := api.Word(ch+16384), api.OK
		if ch == 1 || ch == 2 || ch == 7 {
			want, code = 0, api.ErrArg
		}
		check(t, m.Input(ch, api.Word(ch+16384+32768)), code, "Input", ch)
		checkOutput(t, m, ch, want)
		check(t, m.Input(ch, 65535), code, "Input", ch)
		checkOutput(t, m, ch, min(want, 1)*32767)
		check(t, m.Input(ch, want), code, "Input", ch)
	}
	for ch := range 512 {
		want := api.Word(ch + 16384)
		if ch == 1 || ch == 2 || ch == 7 {
			want = 0
		}
		checkOutput(t, m, ch, want)
	}
	before := see(t, m)
	for _, ch := range []int{-1, -512, 512, 513, 1024 + 5, math.MinInt, math.MaxInt, 1<<32 + 5} {
		check(t, m.Input(ch, 1), api.ErrRange, "Input", ch)
		w, e := m.Output(ch)
		check(t, w, 0, "Output", ch)
		check(t, e, api.ErrRange, "error of Output", ch)
	}
	check(t, see(t, m), before, "the machine after channels that are none")
	check(t, m.Regs(), api.Regs{Z: 2048}, "Regs after Input")
}

// TestPeek tests P8.6: all addresses of Peek and Poke, and those that are none.
func TestPeek(t *testing.T) {
	m := build(t, 4096)
	for at := range 2048 {
		code := api.OK
		if at < 8 {
			code = api.ErrRange
		}
		check(t, m.Poke(at, api.Word(5*at+32768)), code, "Poke", at)
	}
	for at := range 2048 {
		want := api.Word(5 * at)
		if at < 8 {
			want = [8]api.Word{5: 2048}[at]
		}
		checkPeek(t, m, at, want)
		if at < 8 {
			want = 0
		}
		check(t, m.Words()[at], want, "word of Words", at)
	}
	before := see(t, m)
	for _, at := range []int{-1, -100, math.MinInt, 2048, 2049, 4096, math.MaxInt, 1<<32 + 100, 1<<16 + 100} {
		w, e := m.Peek(at)
		check(t, w, 0, "Peek", at)
		check(t, e, api.ErrRange, "error of Peek", at)
		check(t, m.Poke(at, 1), api.ErrRange, "Poke", at)
	}
	check(t, see(t, m), before, "the machine after addresses that are none")
}

// TestPokeWords tests P8.6: all words, without editing, with right parity whatever the parity was.
func TestPokeWords(t *testing.T) {
	m := build(t, 4096)
	for w := range 1 << 16 {
		at := 8 + w%16
		if w%3 == 0 {
			ok(t, m.Spoil(api.Spot{Space: api.SpaceErasable, At: at}, w%16))
		}
		ok(t, m.Poke(at, api.Word(w)))
		checkPeek(t, m, at, api.Word(w%32768))
	}
}

// TestSpoil tests P8.6: all bits, once and twice.
func TestSpoil(t *testing.T) {
	m := build(t, 4096)
	for _, at := range []int{8, 9, 16, 19, 20, 47, 1000, 2047} {
		s := api.Spot{Space: api.SpaceErasable, At: at}
		for bit := range 16 {
			ok(t, m.Poke(at, 21845))
			ok(t, m.Spoil(s, bit))
			checkBad(t, m, at)
			check(t, m.Words()[at], 21845^api.Word(1<<bit%32768), "word of Words", at, bit)
			ok(t, m.Spoil(s, bit))
			checkPeek(t, m, at, 21845)
			ok(t, m.Spoil(s, bit))
			ok(t, m.Spoil(s, (bit+1)%16))
			checkPeek(t, m, at, 21845^api.Word((1<<bit^1<<((bit+1)%16))%32768))
		}
	}
}

// TestSpoilErrors tests P8.6: spaces, addresses and bits that are none, the order of the errors, and that an error has no effect.
func TestSpoilErrors(t *testing.T) {
	m := example(t)
	for space := range 256 {
		for _, at := range []int{-1, 0, 7, 8, 2047, 2048, 36863, 36864, math.MinInt, math.MaxInt, 1<<32 + 8} {
			for _, bit := range []int{-1, 16, math.MinInt, math.MaxInt, 1 << 32} {
				code := api.ErrArg
				if space == 1 || space == 2 {
					code = api.ErrRange
				}
				check(t, m.Spoil(api.Spot{Space: api.Space(space), At: at}, bit), code, "Spoil", space, at, bit)
			}
		}
	}
	for _, s := range []api.Spot{{Space: 0, At: 100}, {Space: 3, At: 100}, {Space: 255, At: 2048}} {
		check(t, m.Spoil(s, 0), api.ErrArg, "Spoil", s)
	}
	for at := -1; at < 8; at++ {
		check(t, m.Spoil(api.Spot{Space: api.SpaceErasable, At: at}, 0), api.ErrRange, "Spoil of an erasable word", at)
	}
	for _, s := range []api.Spot{
		{Space: api.SpaceErasable, At: 2048},
		{Space: api.SpaceErasable, At: math.MaxInt},
		{Space: api.SpaceErasable, At: 1<<32 + 100},
		{Space: api.SpaceFixed, At: -1},
		{Space: api.SpaceFixed, At: 36864},
		{Space: api.SpaceFixed, At: math.MinInt},
		{Space: api.SpaceFixed, At: 1<<32 + 2048},
	} {
		check(t, m.Spoil(s, 0), api.ErrRange, "Spoil", s)
	}
	checkSame(t, m, example(t), 10)
}

// TestSpoilFixed tests P8.6: fixed words at the ends of the memory, as instructions read them.
func TestSpoilFixed(t *testing.T) {
	for _, x := range []struct{ at, fb int }{{0, 0}, {7, 0}, {8, 0}, {2047, 1}, {2048, 2}, {4095, 3}, {31 * 1024, 31}} {
		for bit := range 16 {
			m := build(t, 4096, place(3000, api.Word(1024*x.fb)), place(x.at, 5),
				place(2048, code("CA", 3000), code("TS", 4), code("CA", 1024+x.at%1024)))
			if x.at == 2048 {
				m = build(t, 4096, place(2048, code("CA", 2048)))
			}
			spot := api.Spot{Space: api.SpaceFixed, At: x.at}
			ok(t, m.Spoil(spot, bit))
			if x.at != 2048 {
				run(t, m, 4)
			}
			c := m.Copy()
			cycles(t, m, restarted(api.CauseParity))
			ok(t, c.Spoil(spot, bit))
			cycles(t, c, fetch(), done("CA"))
		}
	}
	m := build(t, 4096)
	for _, at := range []int{0, 36863} {
		ok(t, m.Spoil(api.Spot{Space: api.SpaceFixed, At: at}, 0))
	}
}

// TestResults tests P8.7 with DOC.md's rule 5: results share no memory with the machine or with each other.
func TestResults(t *testing.T) {
	m := example(t)
	ok(t, m.Pulse(api.Pulse{At: 30, Kind: api.PulsePlus}))
	ok(t, m.Pulse(api.Pulse{At: 31, Kind: api.PulsePlus}))
	words, queue := m.Words(), m.Waiting()
	before := see(t, m)
	words[100], queue[0] = 9, api.Pulse{}
	_ = append(queue[:1], api.Pulse{})
	check(t, see(t, m), before, "the machine after a change of its results")
	ok(t, m.Poke(200, 5))
	check(t, words[200], 0, "the result of Words after Poke")
	cycles(t, m, pulsed(30))
	check(t, words[30], 0, "the result of Words after a cycle")
	checkList(t, queue, []api.Pulse{{}, {}}, "the result of Waiting after a cycle")
}

// changes returns changes of a machine, each through another method.
func changes() []func(m *Machine) {
	return []func(m *Machine){
		func(m *Machine) { m.Cycle() },
		func(m *Machine) { m.Run(40) },
		func(m *Machine) { m.Pulse(api.Pulse{At: 40, Kind: api.PulseMinus}) },
		func(m *Machine) { m.Interrupt(8) },
		func(m *Machine) { m.Restart() },
		func(m *Machine) { m.Input(300, 77) },
		func(m *Machine) { m.Poke(200, 77) },
		func(m *Machine) { m.Spoil(api.Spot{Space: api.SpaceErasable, At: 200}, 15) },
		func(m *Machine) { m.Spoil(api.Spot{Space: api.SpaceErasable, At: 200}, 1) },
		func(m *Machine) { m.Spoil(api.Spot{Space: api.SpaceFixed, At: 2048}, 15) },
		func(m *Machine) { m.Spoil(api.Spot{Space: api.SpaceFixed, At: 2049}, 1) },
	}
}

// busy returns a machine with a loop of instructions and with programs of all interrupts.
func busy(t *testing.T) *Machine {
	t.Helper()
	parts := []part{place(2048, code("INCR", 100), code("CA", 100), code("TCF", 2048))}
	for n := 1; n <= 10; n++ {
		parts = append(parts, place(2048+4*n, code("INCR", 60+n), code("RESUME", 0)))
	}
	return build(t, 4096, parts...)
}

// TestCopy tests P8.1: a copy in each cycle of instructions, pulses and interrupts goes on as the machine does, whatever is done to one of them.
func TestCopy(t *testing.T) {
	for n := range 14 {
		for i, change := range changes() {
			m, alone := busy(t), busy(t)
			for _, x := range []*Machine{m, alone} {
				ok(t, x.Pulse(api.Pulse{At: 40, Kind: api.PulsePlus}))
				run(t, x, min(n, 4))
				ok(t, x.Interrupt(9))
				ok(t, x.Interrupt(3))
				run(t, x, max(n-4, 0))
				ok(t, x.Pulse(api.Pulse{At: 40, Kind: api.PulsePlus}))
			}
			c := m.Copy()
			checkSame(t, c, alone, 3)
			change(c)
			checkSame(t, m, alone, 20)
			check(t, differAfter(t, m, c, 40) >= 0, true, "whether a change has an effect", n, i)
			d := m.Copy()
			change(m)
			checkSame(t, m, c, 20)
			checkSame(t, d, alone, 20)
		}
	}
}

// TestErrors tests DOC.md's rule 3: calls with an error have no effect.
func TestErrors(t *testing.T) {
	for n := range 12 {
		m, alone := example(t), example(t)
		for _, x := range []*Machine{m, alone} {
			ok(t, x.Interrupt(9))
			run(t, x, n)
			ok(t, x.Pulse(api.Pulse{At: 40, Kind: api.PulsePlus}))
		}
		m.Run(-1)
		m.Run(api.MaxCycles + 1)
		m.Pulse(api.Pulse{At: 19, Kind: 1})
		m.Pulse(api.Pulse{At: 47, Kind: 8})
		m.Interrupt(0)
		m.Input(7, 100)
		m.Input(512, 100)
		m.Output(512)
		m.Peek(2048)
		m.Poke(7, 1)
		m.Poke(2048, 1)
		m.Spoil(api.Spot{At: 100}, 1)
		m.Spoil(api.Spot{Space: api.SpaceErasable, At: 7}, 1)
		m.Spoil(api.Spot{Space: api.SpaceFixed, At: 2048}, 16)
		checkSame(t, m, alone, 20)
	}
}
