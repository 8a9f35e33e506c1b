package interrupt

import (
	"math/rand"
	"slices"
	"testing"

	"perilune/api"
	"perilune/cpu"
	"perilune/isa"
)

// stepped is what cpu.Step returns, without the words that it reads.
type stepped struct {
	r           api.Regs
	cells, outs []api.Cell
	cycles      int
	op          api.OpCode
	e           api.Errno
}

// step returns what cpu.Step returns, and the words that it reads.
func step(r api.Regs, v api.View) (stepped, []api.Spot) {
	after, done, e := cpu.Step(r, v)
	return stepped{after, done.Cells, done.Outs, done.Cycles, done.Op, e}, done.Reads
}

// sameStep reports whether two steps have the same effect.
func sameStep(a, b stepped) bool {
	return a.r == b.r && slices.Equal(a.cells, b.cells) && slices.Equal(a.outs, b.outs) &&
		a.cycles == b.cycles && a.op == b.op && a.e == b.e
}

// readsSaved reports whether words that an interrupt writes are among those read.
func readsSaved(reads []api.Spot) bool {
	return slices.ContainsFunc(reads, func(s api.Spot) bool {
		return s.Space == api.SpaceErasable && (s.At == 13 || s.At == 15)
	})
}

// nextWord returns the instruction word at Z.
func nextWord(t *testing.T, r api.Regs, v api.View) (api.Word, []api.Spot) {
	t.Helper()
	x, reads, e := cpu.Load(r, v, r.Z)
	check(t, e, api.OK, "error of cpu.Load", r)
	return api.Word(x/32768*16384 + x%16384), reads
}

// checkReturn checks that the next instruction is the same before an interrupt and after it. It reports whether the instruction may be compared.
func checkReturn(t *testing.T, r api.Regs, v api.View) bool {
	t.Helper()
	before, reads := step(r, v)
	if before.e != api.OK || readsSaved(reads) {
		return false
	}
	next, own := nextWord(t, r, v)
	during, _, cells, _, e := Enter(r, rupts(4), next)
	check(t, e, api.OK, "error of Enter", r)
	erasable := slices.Clone(v.Erasable)
	for _, c := range cells {
		erasable[c.At] = c.W
	}
	v.Erasable = erasable
	got, rest := step(Leave(during, erasable), v)
	if !sameStep(got, before) || !slices.Equal(slices.Concat(own, rest), reads) {
		t.Fatalf("after an interrupt, cpu.Step of %v = %v, %v, want %v, %v", r, got, rest, before, reads)
	}
	return true
}

// pickWords returns random words.
func pickWords(g *rand.Rand, n int) []api.Word {
	l := make([]api.Word, n)
	for i := range l {
		l[i] = api.Word(g.Intn(1 << 15))
	}
	return l
}

// TestReturn tests P7.5: random instructions at random addresses.
func TestReturn(t *testing.T) {
	g := rand.New(rand.NewSource(7))
	v := api.View{
		Erasable: pickWords(g, api.ErasableWords),
		Fixed:    pickWords(g, api.FixedWords),
		Channels: pickWords(g, 512),
	}
	count := 0
	for range 40000 {
		a := g.Intn(1 << 15)
		r := api.Regs{
			A: api.Acc(a/16384*49152 + a%16384),
			L: api.Word(g.Intn(1 << 15)), Q: api.Word(g.Intn(1 << 15)), B: api.Word(g.Intn(1 << 15)),
			Z: g.Intn(4096), EB: g.Intn(8), FB: g.Intn(32), Super: g.Intn(8),
		}
		if checkReturn(t, r, v) {
			count++
		}
	}
	if count < 20000 {
		t.Fatalf("only %d instructions were compared", count)
	}
}

// TestReturnRegisters tests P7.5: instructions in the registers, of which none is read.
func TestReturnRegisters(t *testing.T) {
	v := api.View{Erasable: make([]api.Word, api.ErasableWords)}
	for z := range 8 {
		for _, w := range []api.Word{12388, 22629, 6144} { // CA 100, TS 101, TCF 2048
			r := api.Regs{A: api.Acc(w), L: w, Q: w, Z: z, FB: 3, EB: 5}
			if w > 16383 {
				r.A += 32768
			}
			check(t, checkReturn(t, r, v), true, "whether the instruction was compared", z, w)
		}
	}
}

// TestResume tests P7.5: RESUME has the effect of Leave.
func TestResume(t *testing.T) {
	g := rand.New(rand.NewSource(8))
	op, e := isa.Find("RESUME")
	check(t, e, api.OK, "error of isa.Find")
	w, e := isa.Encode(op, 0)
	check(t, e, api.OK, "error of isa.Encode")
	for range 2000 {
		z := g.Intn(4096)
		r := api.Regs{A: 5, L: 6, Q: 7, Z: z, EB: 1, FB: 2, Super: 3}
		during, _, cells, n, e := Enter(r, rupts(1+g.Intn(10)), api.Word(g.Intn(1<<16)))
		check(t, e, api.OK, "error of Enter", r)
		v := api.View{Erasable: make([]api.Word, 16), Fixed: make([]api.Word, api.FixedWords)}
		for _, c := range cells {
			v.Erasable[c.At] = c.W
		}
		v.Fixed[2048+4*n] = w
		got, _, e := cpu.Step(during, v)
		check(t, e, api.OK, "error of cpu.Step", during)
		check(t, got, Leave(during, v.Erasable), "RESUME", during)
	}
}
