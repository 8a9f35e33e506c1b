package cpu

import (
	"perilune/api"
	"perilune/onescomp"
)

// The numbers of values of registers that are no words.
const (
	addresses   = 4096 // of Z
	ebValues    = 8
	fbValues    = 32
	superValues = 8
)

// The erasable addresses of the registers.
const (
	atA = iota
	atL
	atQ
	atEB
	atFB
	atZ
	atBoth    // FB and EB
	atZero    // always +0
	registers // behind the last one
)

// Where a bank register stands in a word, as the factor of its value.
const (
	ebFactor    = 256
	fbFactor    = 1024
	superFactor = 16
)

// The channels that are registers.
const (
	channelL     = 1
	channelQ     = 2
	channelSuper = 7
)

// inHand is the machine while an instruction takes effect.
type inHand struct {
	api.Regs
	view    api.View
	k       int      // the operand
	at      api.Spot // the word that it addresses, even after the instruction has changed a bank register
	done    api.Done
	hasRead bool // whether words of memory were read beside the instruction's own
}

// isRegister reports whether a word of memory is a register instead.
func isRegister(s api.Spot) bool {
	return s.Space == api.SpaceErasable && s.At < registers
}

// register returns the value at the erasable address of a register.
func register(r api.Regs, at int) api.Acc {
	var w int
	switch at {
	case atA:
		return r.A
	case atL:
		w = int(r.L)
	case atQ:
		w = int(r.Q)
	case atEB:
		w = ebFactor * r.EB
	case atFB:
		w = fbFactor * r.FB
	case atZ:
		w = r.Z
	case atBoth:
		w = fbFactor*r.FB + r.EB
	}
	return onescomp.Extend(api.Word(w))
}

// part returns the value that stands in a word with that factor, and is less than count.
func part(w api.Word, factor, count int) int { return int(w) / factor % count }

// store stores x at an erasable address.
func (h *inHand) store(at int, x api.Acc) {
	w := onescomp.Correct(x)
	switch at {
	case atA:
		h.A = x
	case atL:
		h.L = w
	case atQ:
		h.Q = w
	case atEB:
		h.EB = part(w, ebFactor, ebValues)
	case atFB:
		h.FB = part(w, fbFactor, fbValues)
	case atZ:
		h.Z = part(w, 1, addresses)
	case atBoth:
		h.FB, h.EB = part(w, fbFactor, fbValues), part(w, 1, ebValues)
	case atZero:
	default:
		h.done.Cells = append(h.done.Cells, api.Cell{At: at, W: onescomp.Edit(at, w)})
	}
}

// put stores x at the operand.
func (h *inHand) put(x api.Acc) { h.store(h.at.At, x) }

// putAfter stores x at the address after the operand.
func (h *inHand) putAfter(x api.Acc) { h.store(after(h.at).At, x) }

// read returns the value at a word of memory or in a register, and lists the word.
func (h *inHand) read(s api.Spot) api.Acc {
	h.hasRead = true
	h.done.Reads = append(h.done.Reads, listed(s)...)
	return valueAt(h.Regs, h.view, s)
}

// get returns the value at the operand.
func (h *inHand) get() api.Acc { return h.read(h.at) }

// getAfter returns the value at the word after the operand's.
func (h *inHand) getAfter() api.Acc { return h.read(after(h.at)) }

// word returns the accumulator as a word.
func (h *inHand) word() api.Word { return onescomp.Correct(h.A) }

// skip leaves out n instructions.
func (h *inHand) skip(n int) { h.Z = (h.Z + n) % addresses }

// branch continues at the operand, if yes is true: this takes only one cycle.
func (h *inHand) branch(yes bool) {
	if yes {
		h.Z = h.k
		h.done.Cycles = 1
	}
}

// input returns the word of the channel.
func (h *inHand) input() api.Word {
	switch h.k {
	case channelL:
		return h.L
	case channelQ:
		return h.Q
	case channelSuper:
		return api.Word(superFactor * h.Super)
	}
	return wordAt(h.view.Channels, h.k)
}

// output writes w to the channel.
func (h *inHand) output(w api.Word) {
	switch h.k {
	case channelL:
		h.L = w
	case channelQ:
		h.Q = w
	case channelSuper:
		h.Super = part(w, superFactor, superValues)
	default:
		h.done.Outs = append(h.done.Outs, api.Cell{At: h.k, W: w})
	}
}
