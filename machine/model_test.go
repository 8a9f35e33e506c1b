package machine

import (
	"math/rand"
	"slices"
	"testing"

	"perilune/api"
	"perilune/counter"
	"perilune/cpu"
	"perilune/isa"
)

// model is a machine after the chapter's text: it keeps words, and which of them have wrong parity.
type model struct {
	tick            int
	r               api.Regs
	erasable, fixed []api.Word
	wrong           map[api.Spot]bool
	channels        []api.Word
	queue           []api.Pulse
	pending         [11]bool
	left            int // cycles of the activity, 0 for none
	rupt            int // the interrupt that begins, 0 for an instruction
	after           api.Regs
	done            api.Done
	lock, trap      int
	counts          [3]int
}

// newModel returns a new machine with these words of fixed memory.
func newModel(fixed []api.Word, tick int) *model {
	return &model{tick: tick, r: api.Regs{Z: 2048}, erasable: make([]api.Word, 2048), fixed: slices.Clone(fixed),
		wrong: map[api.Spot]bool{}, channels: make([]api.Word, 512)}
}

// clone returns an independent copy.
func (x *model) clone() *model {
	c := *x
	c.erasable, c.fixed = slices.Clone(x.erasable), slices.Clone(x.fixed)
	c.channels, c.queue = slices.Clone(x.channels), slices.Clone(x.queue)
	c.wrong = map[api.Spot]bool{}
	for s, w := range x.wrong {
		c.wrong[s] = w
	}
	return &c
}

func (x *model) view() api.View {
	return api.View{Erasable: x.erasable, Fixed: x.fixed, Channels: x.channels}
}

func (x *model) write(at int, w api.Word) {
	x.erasable[at] = w % 32768
	delete(x.wrong, api.Spot{Space: api.SpaceErasable, At: at})
}

func (x *model) spoil(s api.Spot, bit int) {
	l := x.fixed
	if s.Space == api.SpaceErasable {
		l = x.erasable
	}
	if bit < 15 {
		l[s.At] ^= 1 << bit
	}
	x.wrong[s] = !x.wrong[s]
}

func (x *model) pulse(p api.Pulse) bool {
	if len(x.queue) == 64 {
		return false
	}
	x.queue = append(slices.Clone(x.queue), p)
	return true
}

func (x *model) restart(cause int) api.Status {
	x.left = 0
	r := x.r
	x.r = api.Regs{A: r.A, L: r.L, Q: r.Q, EB: r.EB, FB: r.FB, Super: r.Super, Z: 2048}
	x.pending = [11]bool{}
	for _, ch := range channelsRestarted() {
		x.channels[ch] = 0
	}
	x.lock, x.trap = 0, 0
	x.counts[2]++
	return restarted(cause)
}

func (x *model) cycle() api.Status {
	x.counts[0]++
	if x.counts[0]%x.tick == 0 {
		for _, p := range plus(21, 22, 23, 24) {
			x.pulse(p)
		}
	}
	x.lock++
	if !x.r.Serving {
		x.lock = 0
	}
	if x.lock == 1024 {
		return x.restart(api.CauseLock)
	}
	if x.left == 0 && len(x.queue) > 0 {
		return x.serve()
	}
	if x.left == 0 {
		if cause := x.begin(); cause != 0 {
			return x.restart(cause)
		}
	}
	x.left--
	switch {
	case x.left > 0:
		return fetch()
	case x.rupt > 0:
		return x.enter()
	}
	return x.complete()
}

// serve serves the first of the requests of the least counter.
func (x *model) serve() api.Status {
	first := 0
	for i := range x.queue {
		if x.queue[i].At < x.queue[first].At {
			first = i
		}
	}
	p := x.queue[first]
	if x.wrong[api.Spot{Space: api.SpaceErasable, At: p.At}] {
		return x.restart(api.CauseParity)
	}
	x.queue = slices.Delete(slices.Clone(x.queue), first, first+1)
	w, signal, _ := counter.Apply(x.erasable[p.At], p.Kind)
	x.write(p.At, w)
	l, n := counter.After(p.At, p.Kind, signal)
	for _, p := range l {
		x.pulse(p)
	}
	x.pending[n] = n > 0
	return pulsed(p.At)
}

// begin begins an interrupt or an instruction, or returns the cause of a restart.
func (x *model) begin() int {
	x.rupt = 0
	allowed := !x.r.Inhibit && !x.r.Serving && !x.r.Extended && !x.r.Held && x.r.Index == 0 && x.r.A>>14%2 == x.r.A>>15
	if n := slices.Index(x.pending[:], true); n > 0 && allowed {
		x.rupt = n
	}
	var e api.Errno
	var a api.Acc
	reads := []api.Spot{}
	if x.rupt > 0 {
		a, reads, e = cpu.Load(x.r, x.view(), x.r.Z)
		x.left = 3
	} else {
		x.after, x.done, e = cpu.Step(x.r, x.view())
		x.left, reads = x.done.Cycles, x.done.Reads
	}
	if e != api.OK {
		return api.CauseBank
	}
	for _, s := range reads {
		if x.wrong[s] {
			return api.CauseParity
		}
	}
	if x.rupt > 0 {
		x.pending[x.rupt] = false
		x.done.Cells = []api.Cell{{At: 13, W: api.Word(x.r.Z)}, {At: 15, W: api.Word(a/32768*16384 + a%16384)}}
	}
	return 0
}

// enter ends the beginning of an interrupt.
func (x *model) enter() api.Status {
	x.r.Z, x.r.Serving = 2048+4*x.rupt, true
	for _, c := range x.done.Cells {
		x.write(c.At, c.W)
	}
	x.lock, x.trap = 0, 0
	return entered(x.rupt)
}

// complete ends an instruction.
func (x *model) complete() api.Status {
	x.r = x.after
	for _, c := range x.done.Cells {
		x.write(c.At, c.W)
	}
	for _, c := range x.done.Outs {
		x.channels[c.At] = c.W
	}
	x.counts[1]++
	x.trap++
	if x.done.Op != 1 && x.done.Op != 6 { // TC, TCF
		x.trap = 0
	}
	if x.trap == 64 {
		return x.restart(api.CauseTrap)
	}
	return api.Status{Kind: api.StatusDone, Op: x.done.Op}
}

// pickWord returns the word of a random instruction, with operands that programs often use.
func pickWord(g *rand.Rand) api.Word {
	names := isa.Names()
	for {
		k := []int{g.Intn(48), 60 + g.Intn(8), 2048 + g.Intn(100), 1024 + g.Intn(1024), g.Intn(4096), 0}[g.Intn(6)]
		o, _ := isa.Find(names[g.Intn(len(names))])
		if w, e := isa.Encode(o, k); e == api.OK {
			return w
		}
	}
}

// pickWords returns n random instructions out of a smaller number of them.
func pickWords(g *rand.Rand, n int) []api.Word {
	var few [2000]api.Word
	for i := range few {
		few[i] = pickWord(g)
	}
	l := make([]api.Word, n)
	for i := range l {
		l[i] = few[g.Intn(len(few))]
	}
	return l
}

// pickFixed returns random words of fixed memory. Some of them have a loop, or select a bank that does not exist; the programs of their interrupts end, never do, or are random.
func pickFixed(g *rand.Rand) []api.Word {
	l := pickWords(g, api.FixedWords)
	switch g.Intn(3) {
	case 0:
		copy(l[2048:], []api.Word{code("CA", 60), code("TS", 61), code("TCF", 2100)})
		copy(l[2100:], []api.Word{code("INCR", 60), code("TCF", 2048)})
	case 1:
		l[2048] = code("TCF", 2100)
		copy(l[2100:], []api.Word{code("CA", 3000), code("TS", 4), code("EXTEND", 0), code("WRITE", 7)})
		l[3000] = 28*1024 + 64
	}
	for n := 1; n <= 10; n++ {
		switch g.Intn(3) {
		case 0:
			copy(l[2048+4*n:], []api.Word{code("INCR", 60+n), code("RESUME", 0)})
		case 1:
			copy(l[2048+4*n:], []api.Word{code("INCR", 60+n), code("TCF", 2048+4*n)})
		}
	}
	return l
}

// pair is a machine with its model, and how often it did what.
type pair struct {
	m     *Machine
	x     *model
	kinds map[api.Status]int
}

// compare compares what can be seen of the two.
func (p pair) compare(t *testing.T) {
	t.Helper()
	check(t, p.m.Regs(), p.x.r, "Regs")
	checkCounts(t, p.m, p.x.counts)
	checkList(t, p.m.Waiting(), p.x.queue, "Waiting")
	checkList(t, p.m.Words(), p.x.erasable, "Words")
	channels := slices.Clone(p.x.channels)
	channels[1], channels[2], channels[7] = p.x.r.L, p.x.r.Q, api.Word(16*p.x.r.Super)
	for ch, want := range channels {
		if w, e := p.m.Output(ch); w != want || e != api.OK {
			t.Fatalf("Output of %d = %d, %v, want %d", ch, w, e, want)
		}
	}
	for at := 8; at < 80; at++ {
		if p.x.wrong[api.Spot{Space: api.SpaceErasable, At: at}] {
			checkBad(t, p.m, at)
		} else {
			checkPeek(t, p.m, at, p.x.erasable[at])
		}
	}
}

// cycle performs a cycle of both.
func (p pair) cycle(t *testing.T) {
	t.Helper()
	s, e := p.m.Cycle()
	ok(t, e)
	check(t, s, p.x.cycle(), "Cycle")
	s.Op = 0
	p.kinds[s]++
}

// disturb does something to both.
func (p pair) disturb(t *testing.T, g *rand.Rand) {
	t.Helper()
	at, w := 8+g.Intn(60), api.Word(g.Intn(1<<15))
	switch g.Intn(9) {
	case 0, 1, 2:
		q := api.Pulse{At: 20 + g.Intn(28), Kind: api.PulseKind(1 + g.Intn(7))}
		check(t, p.m.Pulse(q) == api.OK, p.x.pulse(q), "Pulse", q)
	case 3, 4:
		n := 1 + g.Intn(10)
		ok(t, p.m.Interrupt(n))
		p.x.pending[n] = true
	case 5:
		if g.Intn(20) == 0 {
			ok(t, p.m.Restart())
			p.x.restart(api.CauseManual)
		}
	case 6:
		ch := []int{0, 3, 4, 5, 6, 8, 9, 14, 15, 300, 511}[g.Intn(11)]
		ok(t, p.m.Input(ch, w))
		p.x.channels[ch] = w
	case 7:
		w = []api.Word{w, 16383, 16384, 0, 1, 32767}[g.Intn(6)]
		ok(t, p.m.Poke(at, w))
		p.x.write(at, w)
	case 8:
		if g.Intn(4) == 0 {
			s, bit := api.Spot{Space: api.SpaceErasable, At: at}, g.Intn(16)
			if g.Intn(4) == 0 {
				s = api.Spot{Space: api.SpaceFixed, At: 2048 + g.Intn(1024)}
			}
			ok(t, p.m.Spoil(s, bit))
			p.x.spoil(s, bit)
		}
	}
}

// repair makes the words of the counters right that have requests, in one way or another: until then, the machine restarts in each cycle.
func (p pair) repair(t *testing.T, g *rand.Rand) {
	t.Helper()
	for _, q := range p.m.Waiting() {
		s := api.Spot{Space: api.SpaceErasable, At: q.At}
		if !p.x.wrong[s] {
			continue
		}
		n := g.Intn(16)
		if g.Intn(2) == 0 {
			ok(t, p.m.Poke(q.At, api.Word(n)))
			p.x.write(q.At, api.Word(n))
		} else {
			ok(t, p.m.Spoil(s, n))
			p.x.spoil(s, n)
		}
	}
}

// follow runs both for n cycles, with a disturbance in one of so many.
func (p pair) follow(t *testing.T, g *rand.Rand, n, rare int) {
	t.Helper()
	for i := range n {
		if g.Intn(rare) == 0 {
			p.disturb(t, g)
		}
		p.cycle(t)
		if g.Intn(4) == 0 {
			p.repair(t, g)
		}
		if i%16 == 0 {
			p.compare(t)
		}
	}
	p.compare(t)
}

// pickPair returns a new machine with its model.
func pickPair(t *testing.T, g *rand.Rand, kinds map[api.Status]int) pair {
	t.Helper()
	fixed := pickFixed(g)
	tick := 16 + g.Intn([]int{1, 100, 4081}[g.Intn(3)])
	p := pair{build(t, tick, place(0, fixed...)), newModel(fixed, tick), kinds}
	for i, w := range pickWords(g, 2040) {
		ok(t, p.m.Poke(8+i, w))
		p.x.write(8+i, w)
	}
	return p
}

// TestModel tests P8.2 to P8.8: random programs with random disturbances, and copies that go other ways.
func TestModel(t *testing.T) {
	g := rand.New(rand.NewSource(13))
	kinds := map[api.Status]int{}
	for range 60 {
		p := pickPair(t, g, kinds)
		rare := []int{1, 3, 20, 300}[g.Intn(4)]
		p.follow(t, g, g.Intn(500), rare)
		c := pair{p.m.Copy(), p.x.clone(), kinds}
		p.follow(t, g, 2500, rare)
		c.compare(t)
		c.follow(t, g, 500, rare)
		p.compare(t)
		p.follow(t, g, 100, rare)
	}
	for cause := api.CauseParity; cause <= api.CauseBank; cause++ {
		check(t, kinds[restarted(cause)] > 20, true, "whether there were enough restarts", cause, kinds[restarted(cause)])
	}
	for n := 1; n <= 10; n++ {
		check(t, kinds[entered(n)] > 20, true, "whether there were enough interrupts", n, kinds[entered(n)])
	}
	for at := 20; at <= 47; at++ {
		check(t, kinds[pulsed(at)] > 20, true, "whether there were enough pulses", at, kinds[pulsed(at)])
	}
}

// TestSteps tests P8.8: without requests, interrupts and restarts, the registers and the words after each cycle are those of as many steps as instructions were completed.
func TestSteps(t *testing.T) {
	g := rand.New(rand.NewSource(9))
	total := 0
	for range 100 {
		p := pickPair(t, g, map[api.Status]int{})
		r, words, channels, steps := p.m.Regs(), p.m.Words(), make([]api.Word, 512), 0
		for {
			s, _ := p.m.Cycle()
			if s.Kind != api.StatusFetch && s.Kind != api.StatusDone || len(p.m.Waiting()) > 0 {
				break
			}
			if _, n, _ := p.m.Counts(); n > steps {
				after, done, e := cpu.Step(r, api.View{Erasable: words, Fixed: p.x.fixed, Channels: channels})
				ok(t, e)
				check(t, s.Op, done.Op, "instruction")
				r = after
				for _, c := range done.Cells {
					words[c.At] = c.W
				}
				for _, c := range done.Outs {
					channels[c.At] = c.W
				}
				steps++
				check(t, n, steps, "number of instructions")
			}
			check(t, p.m.Regs(), r, "Regs")
			checkList(t, p.m.Words(), words, "Words")
		}
		total += steps
	}
	check(t, total > 2000, true, "whether there were enough steps", total)
}

// TestPulsesAreKept tests P8.8: whatever restarts happen, also by counters of wrong parity, each pulse that the queue took is counted or waits.
func TestPulsesAreKept(t *testing.T) {
	g := rand.New(rand.NewSource(10))
	m := build(t, 4096, place(2048, code("INCR", 60), code("TCF", 2048)), place(2068, code("INCR", 61), code("TCF", 2068)))
	var taken [28]int
	byHand, byParity := 0, 0
	for i := range 4000 {
		if at := 26 + g.Intn(11); m.Pulse(api.Pulse{At: at, Kind: api.PulsePlus}) == api.OK {
			taken[at-20]++
		}
		switch g.Intn(30) {
		case 0:
			ok(t, m.Restart())
			byHand++
		case 1:
			ok(t, m.Interrupt(5))
		}
		s, bit := api.Spot{Space: api.SpaceErasable, At: 26 + g.Intn(11)}, g.Intn(16)
		spoilt := g.Intn(10) == 0
		if spoilt {
			ok(t, m.Spoil(s, bit))
		}
		if _, last, _ := m.Run(g.Intn(4)); last == restarted(api.CauseParity) {
			byParity++
		}
		if spoilt {
			ok(t, m.Spoil(s, bit))
		}
		for at := 26; at < 37; at++ {
			w, e := m.Peek(at)
			ok(t, e)
			check(t, int(w)+counter.Total(m.Waiting(), at), taken[at-20], "pulses", at, i)
		}
	}
	check(t, byHand > 50 && byParity > 20, true, "whether there were enough restarts", byHand, byParity)
}
