package cpu

import (
	"math/rand"
	"slices"
	"testing"

	"perilune/api"
	"perilune/isa"
)

// model is the machine of the chapter, written after its text in plain numbers: x and y are the values that the instruction reads.
type model struct {
	r       api.Regs
	v       api.View
	k, a, b int // the operand, the address of its word and of the word after
	x, y    int
	d       api.Done
}

func extend(w int) int {
	if w > 16383 {
		return w + 32768
	}
	return w
}

func correct(a int) int { return a/32768*16384 + a%16384 }

func addAcc(a, b int) int {
	if a+b > 65535 {
		return a + b - 65535
	}
	return a + b
}

// unit returns 1, 65534 or 0 for an overflow 1, -1 or 0.
func unit(a int) int { return [4]int{0, 1, 65534, 0}[a/16384] }

func element(l []api.Word, at int) int {
	if at < len(l) {
		return int(l[at]) % 32768
	}
	return 0
}

// spotAt returns the word of an operand, and false if it does not exist.
func spotAt(r api.Regs, k int) (api.Spot, bool) {
	bank := r.FB
	if bank > 23 && r.Super > 3 {
		bank += 8
	}
	switch {
	case k < 768:
		return erasable(k), true
	case k < 1024:
		return erasable(256*r.EB + k - 768), true
	case k < 2048:
		return fixed(1024*bank + k - 1024), bank < 36
	}
	return fixed(k), true
}

func (m *model) value(s api.Spot) int {
	if s.Space == api.SpaceFixed {
		return extend(element(m.v.Fixed, s.At))
	}
	r := m.r
	switch s.At {
	case 0:
		return int(r.A)
	case 1:
		return extend(int(r.L))
	case 2:
		return extend(int(r.Q))
	case 3:
		return extend(256 * r.EB)
	case 4:
		return extend(1024 * r.FB)
	case 5:
		return extend(r.Z)
	case 6:
		return extend(1024*r.FB + r.EB)
	case 7:
		return 0
	}
	return extend(element(m.v.Erasable, s.At))
}

func (m *model) take(s api.Spot) int {
	if s.Space == api.SpaceFixed || s.At > 7 {
		m.d.Reads = append(m.d.Reads, s)
	}
	return m.value(s)
}

func (m *model) store(at, x int) {
	w := correct(x)
	switch at {
	case 0:
		m.r.A = api.Acc(x)
	case 1:
		m.r.L = api.Word(w)
	case 2:
		m.r.Q = api.Word(w)
	case 3:
		m.r.EB = w >> 8 & 7
	case 4:
		m.r.FB = w >> 10
	case 5:
		m.r.Z = w & 4095
	case 6:
		m.r.FB, m.r.EB = w>>10, w&7
	case 7:
	case 16:
		w = w>>1 + w&1<<14
	case 17:
		w = w>>1 + w&16384
	case 18:
		w = w<<1&32767 + w>>14
	case 19:
		w = w >> 7 & 127
	}
	if at > 7 {
		m.d.Cells = append(m.d.Cells, api.Cell{At: at, W: api.Word(w)})
	}
}

func (m *model) channel() int {
	switch m.k {
	case 1:
		return int(m.r.L)
	case 2:
		return int(m.r.Q)
	case 7:
		return 16 * m.r.Super
	}
	return element(m.v.Channels, m.k)
}

func (m *model) write(w int) {
	switch m.k {
	case 1:
		m.r.L = api.Word(w)
	case 2:
		m.r.Q = api.Word(w)
	case 7:
		m.r.Super = w >> 4 & 7
	default:
		m.d.Outs = append(m.d.Outs, api.Cell{At: m.k, W: api.Word(w)})
	}
}

func (m *model) setA(x int) { m.r.A = api.Acc(x) }

func (m *model) setL(w int) { m.r.L = api.Word(w) }

func (m *model) goTo(yes bool) {
	if yes {
		m.r.Z, m.d.Cycles = m.k, 1
	}
}

// flow has the effect of the instructions that read no operand; it returns false for the others.
func (m *model) flow(name string) bool {
	a, w := int(m.r.A), correct(int(m.r.A))
	switch name {
	case "TC":
		if m.k == 2 {
			m.r.B, m.r.Held = m.r.Q, true
		}
		m.r.Q, m.r.Z = api.Word(m.r.Z), m.k
	case "TCF":
		m.r.Z = m.k
	case "EXTEND":
		m.r.Extended = true
	case "INHINT":
		m.r.Inhibit = true
	case "RELINT":
		m.r.Inhibit = false
	case "RESUME":
		m.r.Z = m.take(erasable(13)) % 4096
		m.r.B = api.Word(correct(m.take(erasable(15))))
		m.r.Held, m.r.Serving = true, false
	case "TS":
		if m.a != 0 {
			m.store(m.a, a)
		}
		if unit(a) != 0 {
			m.r.Z = (m.r.Z + 1) % 4096
			if m.a != 0 {
				m.setA(unit(a))
			}
		}
	case "READ":
		m.setA(extend(m.channel()))
	case "WRITE":
		m.write(w)
	case "RAND":
		m.setA(extend(w & m.channel()))
	case "ROR":
		m.setA(extend(w | m.channel()))
	case "RXOR":
		m.setA(extend(w ^ m.channel()))
	case "WAND":
		w &= m.channel()
		m.write(w)
		m.setA(extend(w))
	case "WOR":
		w |= m.channel()
		m.write(w)
		m.setA(extend(w))
	case "EDRUPT":
	case "BZF":
		m.goTo(a == 0 || a == 65535)
	case "BZMF":
		m.goTo(a == 0 || a > 32767)
	default:
		return false
	}
	return true
}

// pair has the effect of the instructions that read two words; it returns false for the others.
func (m *model) pair(name string) bool {
	a, l := int(m.r.A), extend(int(m.r.L))
	switch name {
	case "DAS":
		t := addAcc(m.y, l)
		u := addAcc(addAcc(m.x, a), unit(t))
		if m.a == 0 {
			m.setA(u)
			m.setL(correct(t))
		} else {
			m.store(m.b, t)
			m.store(m.a, u)
			m.setL(0)
			m.setA(unit(u))
		}
	case "DXCH":
		m.store(m.b, l)
		m.setL(correct(m.y))
		x := m.value(erasable(m.a))
		m.store(m.a, int(m.r.A))
		m.setA(x)
	case "DCA":
		m.setA(m.x)
		m.setL(correct(m.y))
	case "DCS":
		m.setA(65535 - m.x)
		m.setL(32767 - correct(m.y))
	default:
		return false
	}
	return true
}

// single has the effect of the instructions that read one word.
func (m *model) single(t *testing.T, name string) {
	a, l, x := int(m.r.A), extend(int(m.r.L)), m.x
	switch name {
	case "CCS":
		class, size := 0, x
		if x > 32767 {
			class, size = 2, 65535-x
		}
		if size == 0 {
			class, size = class+1, 1
		}
		m.setA(size - 1)
		m.r.Z = (m.r.Z + class) % 4096
	case "LXCH":
		m.store(m.a, l)
		m.setL(correct(x))
	case "QXCH":
		m.store(m.a, extend(int(m.r.Q)))
		m.r.Q = api.Word(correct(x))
	case "INCR":
		m.store(m.a, addAcc(x, 1))
	case "ADS":
		m.store(m.a, addAcc(a, x))
		m.setA(addAcc(a, x))
	case "CA":
		m.setA(x)
	case "CS":
		m.setA(65535 - x)
	case "INDEX", "XINDEX":
		m.r.Index, m.r.Extended = api.Word(correct(x)), name == "XINDEX"
	case "XCH":
		m.store(m.a, a)
		m.setA(x)
	case "AD":
		m.setA(addAcc(a, x))
	case "SU":
		m.setA(addAcc(a, 65535-x))
	case "MASK":
		m.setA(extend(correct(a) & correct(x)))
	case "DV":
		q := wantDivide(api.Word(correct(a)), m.r.L, api.Word(correct(x)))
		m.setA(extend(int(q[0])))
		m.setL(int(q[1]))
	case "MP":
		hi, lo := Multiply(api.Word(correct(a)), api.Word(correct(x))) // TestMultiply tests it
		m.setA(extend(int(hi)))
		m.setL(int(lo))
	case "MSU":
		d := (correct(a) - correct(x) + 32768) % 32768
		if d > 16384 {
			d--
		}
		m.setA(extend(d))
	case "AUG":
		if x <= 32767 {
			m.store(m.a, addAcc(x, 1))
		} else {
			m.store(m.a, addAcc(x, 65534))
		}
	case "DIM":
		if x > 0 && x < 32768 {
			x--
		} else if x > 32767 && x < 65535 {
			x++
		}
		m.store(m.a, x)
	default:
		t.Fatalf("no instruction %s", name)
	}
}

// stepOf returns the result of Step by the chapter's text, for valid registers.
func stepOf(t *testing.T, r api.Regs, v api.View) (api.Regs, api.Done, api.Errno) {
	m := model{r: r, v: v}
	w := int(r.B)
	if !r.Held {
		s, ok := spotAt(r, r.Z)
		if !ok {
			return api.Regs{}, api.Done{}, api.ErrRange
		}
		w = correct(m.take(s))
	}
	w += int(r.Index)
	if w > 32767 {
		w -= 32767
	}
	op, k, _ := isa.Decode(api.Word(w), r.Extended)
	m.r.Z, m.r.Held, m.r.Extended, m.r.B, m.r.Index = (r.Z+1)%4096, false, false, 0, 0
	m.d.Cycles, m.d.Op = op.Cycles, op.Code
	at, ok := spotAt(m.r, k)
	m.k, m.a = k, at.At
	if m.flow(op.Name) {
		return m.r, m.d, api.OK
	}
	if !ok {
		return api.Regs{}, api.Done{}, api.ErrRange
	}
	if slices.Contains([]string{"DAS", "DXCH", "DCA", "DCS"}, op.Name) {
		next := api.Spot{Space: at.Space, At: at.At + 1}
		if next == erasable(2048) || next == fixed(36864) {
			next.At = 0
		}
		m.b, m.y = next.At, m.take(next)
	}
	m.x = m.take(at)
	if !m.pair(op.Name) {
		m.single(t, op.Name)
	}
	return m.r, m.d, api.OK
}

// pick returns one of the edges, or any word.
func pick(g *rand.Rand) api.Word {
	if g.Intn(2) == 0 {
		return edges[g.Intn(len(edges))]
	}
	return api.Word(g.Intn(32768))
}

// pickAcc returns an accumulator, often one at an edge or with an overflow.
func pickAcc(g *rand.Rand) api.Acc {
	return api.Acc(pick(g)) + api.Acc(g.Intn(2))<<15
}

// pickRegs returns valid registers.
func pickRegs(g *rand.Rand) api.Regs {
	return api.Regs{
		A: pickAcc(g), L: pick(g), Q: pick(g), Z: g.Intn(4096),
		EB: g.Intn(8), FB: g.Intn(32), Super: g.Intn(8),
		Inhibit: g.Intn(2) == 0, Serving: g.Intn(2) == 0,
	}
}

// pickView returns memories and channels, some of them short, whose words may have their highest bits set.
func pickView(g *rand.Rand) api.View {
	list := func(n int) []api.Word {
		if g.Intn(4) == 0 {
			n = g.Intn(n + 1)
		}
		l := make([]api.Word, n)
		for i := range l {
			l[i] = pick(g) + api.Word(g.Intn(2))<<15
		}
		return l
	}
	return api.View{Erasable: list(2048), Fixed: list(36864), Channels: list(512)}
}

// checkStep compares Step with the chapter's text, and tests the rules for its results.
func checkStep(t *testing.T, r api.Regs, v api.View) (api.Regs, api.Done, api.Errno) {
	t.Helper()
	got, d, e := Step(r, v)
	want, w, f := stepOf(t, r, v)
	if got != want || !sameDone(d, w) || e != f {
		t.Fatalf("Step of %+v = %+v, %+v, %v, want %+v, %+v, %v", r, got, d, e, want, w, f)
	}
	if !May(got) {
		t.Fatalf("Step of %+v = %+v, which is not valid", r, got)
	}
	for _, c := range d.Cells {
		if c.At < 8 || c.At > 2047 || c.W > api.MaxWord {
			t.Fatalf("Step of %+v writes the cell %v", r, c)
		}
	}
	for _, c := range d.Outs {
		if c.At < 0 || c.At > 511 || c.At == 1 || c.At == 2 || c.At == 7 || c.W > api.MaxWord {
			t.Fatalf("Step of %+v writes the channel %v", r, c)
		}
	}
	return got, d, e
}

// TestStepAll tests P5.3 and P5.6: every instruction word, from B, with several registers and memories.
func TestStepAll(t *testing.T) {
	g := rand.New(rand.NewSource(5))
	for range 4 {
		v := pickView(g)
		for w := range api.Word(api.MaxWord + 1) {
			for _, extended := range []bool{false, true} {
				r := pickRegs(g)
				r.Held, r.B, r.Extended = true, w, extended
				checkStep(t, r, v)
			}
		}
	}
}

// TestStepRegisters tests P5.3 and P5.6: every instruction with the operands near registers, near the ends of banks, and near editing addresses.
func TestStepRegisters(t *testing.T) {
	g := rand.New(rand.NewSource(6))
	v := pickView(g)
	var operands []int
	for k := range 24 {
		operands = append(operands, k, 768+k)
	}
	operands = append(operands, 511, 767, 1022, 1023, 1024, 1025, 2046, 2047, 2048, 2049, 3071, 3072, 4094, 4095)
	for code := range api.OpCode(39) {
		op, _ := isa.Of(code + 1)
		for _, k := range operands {
			w, e := isa.Encode(op, k)
			if e != api.OK {
				continue
			}
			for i := range 128 {
				r := pickRegs(g)
				r.EB = []int{0, 0, 7, r.EB}[i%4]
				r.Held, r.B, r.Extended = true, w, op.Extended
				checkStep(t, r, v)
			}
		}
	}
}

// TestStepMemory tests P5.2, P5.3 and P5.6: instructions at all addresses, with and without an index, and the instructions that follow.
func TestStepMemory(t *testing.T) {
	g := rand.New(rand.NewSource(7))
	for range 6 {
		v := pickView(g)
		for z := range 4096 {
			r := pickRegs(g)
			r.Z, r.Extended, r.Held = z, g.Intn(2) == 0, g.Intn(4) == 0
			if g.Intn(2) == 0 {
				r.Index = pick(g)
			}
			r.B = pick(g) // without effect unless it is held
			for range 4 {
				next, _, e := checkStep(t, r, v)
				if e != api.OK {
					break
				}
				r = next
			}
		}
	}
}

// only returns a view of the words that were read, and of one channel; all other words are inverted.
func only(v api.View, reads []api.Spot, channel int) api.View {
	invert := func(l []api.Word, n int) []api.Word {
		out := make([]api.Word, n)
		for i := range out {
			out[i] = api.Word(32767 - element(l, i))
		}
		return out
	}
	out := api.View{Erasable: invert(v.Erasable, 2048), Fixed: invert(v.Fixed, 36864), Channels: invert(v.Channels, 512)}
	for _, s := range reads {
		if s.Space == api.SpaceErasable {
			out.Erasable[s.At] = api.Word(element(v.Erasable, s.At))
		} else {
			out.Fixed[s.At] = api.Word(element(v.Fixed, s.At))
		}
	}
	if channel >= 0 {
		out.Channels[channel] = api.Word(element(v.Channels, channel))
	}
	return out
}

// TestStepDepends tests P5.6: the words that Reads does not list, and the other channels, do not matter.
func TestStepDepends(t *testing.T) {
	g := rand.New(rand.NewSource(8))
	v := pickView(g)
	for code := range api.OpCode(39) {
		op, _ := isa.Of(code + 1)
		least, most := isa.Range(op)
		for range 40 {
			k := least + g.Intn(most-least+1)
			w, e := isa.Encode(op, k)
			if e != api.OK {
				continue
			}
			r := pickRegs(g)
			r.B, r.Held, r.Extended, r.Super = w, true, op.Extended, g.Intn(4)
			if g.Intn(2) == 0 {
				v.Fixed[3000], r.Z, r.Held = w, 3000, false
			}
			channel := -1
			if op.Kind == api.KindChannel {
				channel = k
			}
			x, d, e := checkStep(t, r, v)
			check(t, e, api.OK, "error of Step", r)
			y, f, e := Step(r, only(v, d.Reads, channel))
			if x != y || !sameDone(d, f) || e != api.OK {
				t.Fatalf("Step of %s %d in %+v depends on other words: %+v, %+v, %v, not %+v, %+v", op.Name, k, r, y, f, e, x, d)
			}
		}
	}
}

// TestArgumentsStay tests DOC.md's rule 5: the view stays as it is, and results are of their own.
func TestArgumentsStay(t *testing.T) {
	v := view(words{100: 5, 101: 6, 110: 0}, words{2048: code(t, "DAS", 100), 2060: 0}, words{20: 3})
	v.Erasable, v.Fixed, v.Channels = v.Erasable[:105], v.Fixed[:2050], v.Channels[:10]
	before := api.View{Erasable: slices.Clone(v.Erasable[:cap(v.Erasable)]), Fixed: slices.Clone(v.Fixed[:cap(v.Fixed)]), Channels: slices.Clone(v.Channels[:cap(v.Channels)])}
	r := api.Regs{A: 1, L: 2, Z: 2048}
	first, d, _ := Step(r, v)
	keep := api.Done{Cells: slices.Clone(d.Cells), Outs: slices.Clone(d.Outs), Reads: slices.Clone(d.Reads), Cycles: d.Cycles, Op: d.Op}
	clear(d.Cells)
	clear(d.Reads)
	again, f, _ := Step(r, v)
	check(t, again, first, "Step again", r)
	if !sameDone(f, keep) {
		t.Fatalf("Step after a change of its result: %+v, want %+v", f, keep)
	}
	_, l, _ := Load(r, v, 100)
	_, _, _, m, _ := Fetch(r, v)
	clear(l)
	clear(m)
	if !slices.Equal(f.Reads, keep.Reads) {
		t.Fatalf("Step shares %v with other results", f.Reads)
	}
	if !slices.Equal(v.Erasable[:cap(v.Erasable)], before.Erasable) || !slices.Equal(v.Fixed[:cap(v.Fixed)], before.Fixed) || !slices.Equal(v.Channels[:cap(v.Channels)], before.Channels) {
		t.Fatal("a call has changed the view")
	}
}
