package cpu

import (
	"perilune/api"
	"perilune/onescomp"
)

const (
	minusOne  api.Acc = 65534 // -1
	minusZero api.Acc = 65535 // -0
	mostPlus  api.Acc = 32767 // greater values have the sign -
)

const (
	returnOperand = 2  // TC with this operand returns from a subroutine
	savedZ        = 13 // the erasable address of Z at the interrupt that RESUME ends
	savedB        = 15 // the erasable address of the instruction word that it interrupted
)

// effects returns the effects of the instructions of a kind by their names. Each step builds this map anew, and the instructions of one kind take a fraction of the time of all.
func (h *inHand) effects(kind api.OpKind) map[string]func() {
	switch kind {
	case api.KindNone:
		return map[string]func(){
			"EXTEND": h.extend,
			"INHINT": h.inhint,
			"RELINT": h.relint,
			"RESUME": h.resume,
		}
	case api.KindFixed:
		return map[string]func(){
			"TCF":  h.tcf,
			"BZF":  h.bzf,
			"BZMF": h.bzmf,
		}
	case api.KindAny:
		return map[string]func(){
			"TC":     h.tc,
			"CA":     h.ca,
			"CS":     h.cs,
			"AD":     h.ad,
			"MASK":   h.mask,
			"DCA":    h.dca,
			"DCS":    h.dcs,
			"XINDEX": h.xindex,
			"MP":     h.mp,
		}
	case api.KindChannel:
		return map[string]func(){
			"READ":   h.readChannel,
			"WRITE":  h.writeChannel,
			"RAND":   h.rand,
			"WAND":   h.wand,
			"ROR":    h.ror,
			"WOR":    h.wor,
			"RXOR":   h.rxor,
			"EDRUPT": h.edrupt,
		}
	}
	return h.erasableEffects()
}

// erasableEffects returns the effects of the instructions with erasable operands.
func (h *inHand) erasableEffects() map[string]func() {
	return map[string]func(){
		"CCS":   h.ccs,
		"DAS":   h.das,
		"LXCH":  h.lxch,
		"INCR":  h.incr,
		"ADS":   h.ads,
		"INDEX": h.index,
		"DXCH":  h.dxch,
		"TS":    h.ts,
		"XCH":   h.xch,
		"DV":    h.dv,
		"MSU":   h.msu,
		"QXCH":  h.qxch,
		"AUG":   h.aug,
		"DIM":   h.dim,
		"SU":    h.su,
	}
}

// overflowUnit returns the overflow of x as an accumulator: 1, -1 or +0.
func overflowUnit(x api.Acc) api.Acc {
	switch onescomp.Overflow(x) {
	case 1:
		return 1
	case -1:
		return minusOne
	}
	return 0
}

func (h *inHand) tc() {
	if h.k == returnOperand {
		h.B, h.Held = h.Q, true
	}
	h.Q = api.Word(h.Z)
	h.Z = h.k
}

func (h *inHand) tcf() { h.Z = h.k }

func (h *inHand) extend() { h.Extended = true }

func (h *inHand) inhint() { h.Inhibit = true }

func (h *inHand) relint() { h.Inhibit = false }

func (h *inHand) ccs() {
	x := h.get()
	h.A = onescomp.Diminish(x)
	h.skip(onescomp.Class(x))
}

func (h *inHand) das() {
	y, x := h.getAfter(), h.get()
	t := onescomp.AddAcc(y, onescomp.Extend(h.L))
	u := onescomp.AddAcc(onescomp.AddAcc(x, h.A), overflowUnit(t))
	if h.at.At == atA {
		h.A, h.L = u, onescomp.Correct(t)
		return
	}
	h.putAfter(t)
	h.put(u)
	h.A, h.L = overflowUnit(u), 0
}

func (h *inHand) lxch() {
	x := h.get()
	h.put(onescomp.Extend(h.L))
	h.L = onescomp.Correct(x)
}

func (h *inHand) qxch() {
	x := h.get()
	h.put(onescomp.Extend(h.Q))
	h.Q = onescomp.Correct(x)
}

func (h *inHand) incr() { h.put(onescomp.AddAcc(h.get(), 1)) }

func (h *inHand) ads() {
	sum := onescomp.AddAcc(h.A, h.get())
	h.put(sum)
	h.A = sum
}

func (h *inHand) ca() { h.A = h.get() }

func (h *inHand) cs() { h.A = onescomp.NegAcc(h.get()) }

func (h *inHand) index() { h.Index = onescomp.Correct(h.get()) }

func (h *inHand) xindex() {
	h.index()
	h.Extended = true
}

func (h *inHand) resume() {
	z := h.read(api.Spot{Space: api.SpaceErasable, At: savedZ})
	b := h.read(api.Spot{Space: api.SpaceErasable, At: savedB})
	h.Z = part(onescomp.Correct(z), 1, addresses)
	h.B, h.Held = onescomp.Correct(b), true
	h.Serving = false
}

// dxch exchanges the second word first: the operand may be L, and the address after it A.
func (h *inHand) dxch() {
	y := h.getAfter()
	h.putAfter(onescomp.Extend(h.L))
	h.L = onescomp.Correct(y)
	h.xch()
}

func (h *inHand) ts() {
	over := overflowUnit(h.A)
	isA := h.at.At == atA
	if !isA {
		h.put(h.A)
	}
	if over == 0 {
		return
	}
	h.skip(1)
	if !isA {
		h.A = over
	}
}

func (h *inHand) xch() {
	x := h.get()
	h.put(h.A)
	h.A = x
}

func (h *inHand) ad() { h.A = onescomp.AddAcc(h.A, h.get()) }

func (h *inHand) su() { h.A = onescomp.AddAcc(h.A, onescomp.NegAcc(h.get())) }

func (h *inHand) mask() { h.A = onescomp.Extend(h.word() & onescomp.Correct(h.get())) }

func (h *inHand) readChannel() { h.A = onescomp.Extend(h.input()) }

func (h *inHand) writeChannel() { h.output(h.word()) }

func (h *inHand) rand() { h.A = onescomp.Extend(h.word() & h.input()) }

func (h *inHand) ror() { h.A = onescomp.Extend(h.word() | h.input()) }

func (h *inHand) rxor() { h.A = onescomp.Extend(h.word() ^ h.input()) }

// outputAndKeep writes w to the channel and to the accumulator.
func (h *inHand) outputAndKeep(w api.Word) {
	h.output(w)
	h.A = onescomp.Extend(w)
}

func (h *inHand) wand() { h.outputAndKeep(h.word() & h.input()) }

func (h *inHand) wor() { h.outputAndKeep(h.word() | h.input()) }

func (h *inHand) edrupt() {}

func (h *inHand) dv() {
	q, r := Divide(h.word(), h.L, onescomp.Correct(h.get()))
	h.A, h.L = onescomp.Extend(q), r
}

func (h *inHand) bzf() { h.branch(h.A == 0 || h.A == minusZero) }

func (h *inHand) bzmf() { h.branch(h.A == 0 || h.A > mostPlus) }

func (h *inHand) msu() {
	h.A = onescomp.Extend(onescomp.TwosDiff(h.word(), onescomp.Correct(h.get())))
}

func (h *inHand) aug() {
	x := h.get()
	if x > mostPlus {
		h.put(onescomp.AddAcc(x, minusOne))
	} else {
		h.put(onescomp.AddAcc(x, 1))
	}
}

func (h *inHand) dim() {
	x := h.get()
	switch onescomp.Class(x) {
	case 0:
		x--
	case 2:
		x++
	}
	h.put(x)
}

func (h *inHand) dca() {
	y, x := h.getAfter(), h.get()
	h.A, h.L = x, onescomp.Correct(y)
}

func (h *inHand) dcs() {
	y, x := h.getAfter(), h.get()
	h.A, h.L = onescomp.NegAcc(x), onescomp.Neg(onescomp.Correct(y))
}

func (h *inHand) mp() {
	hi, lo := Multiply(h.word(), onescomp.Correct(h.get()))
	h.A, h.L = onescomp.Extend(hi), lo
}
