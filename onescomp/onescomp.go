// Package onescomp is layer 1: ones'-complement words of 15 bits, the accumulator of 16 bits, and the editing operations. See shared/doc/01-onescomp.md.
package onescomp

import "perilune/api"

const (
	wordSign = 1 << 14   // the sign bit of a word, the lower sign bit of an accumulator
	accSign  = 1 << 15   // the upper sign bit of an accumulator
	accMax   = 1<<16 - 1 // all bits of an accumulator
	opMax    = 1<<7 - 1  // all bits of an opcode
)

// low returns the bits of an argument: callers may pass a word with its highest bit set.
func low(w api.Word) api.Word { return w & api.MaxWord }

// sum returns a + b with end-around carry, where all is the number with all bits set. It adds in 32 bits because the carry does not fit into T.
func sum[T api.Word | api.Acc](a, b, all T) T {
	s := uint32(a) + uint32(b)
	if s > uint32(all) {
		s -= uint32(all)
	}
	return T(s)
}

// Value returns the value of a word, from -16383 to 16383.
func Value(w api.Word) int {
	n := int(low(w))
	if n > api.MaxOne {
		n -= api.MaxWord
	}
	return n
}

// Of returns the word with the value n, and +0 for 0.
func Of(n int) (api.Word, api.Errno) {
	if n < -api.MaxOne || n > api.MaxOne {
		return 0, api.ErrRange
	}
	if n < 0 {
		n += api.MaxWord
	}
	return api.Word(n), api.OK
}

// Neg returns the complement of all 15 bits.
func Neg(w api.Word) api.Word { return api.MaxWord - low(w) }

// Add returns the 15-bit sum with end-around carry.
func Add(a, b api.Word) api.Word { return sum(low(a), low(b), api.MaxWord) }

// Extend copies the sign bit to bit 15.
func Extend(w api.Word) api.Acc {
	return api.Acc(low(w) | (w&wordSign)<<1)
}

// AddAcc returns the 16-bit sum with end-around carry.
func AddAcc(a, b api.Acc) api.Acc { return sum(a, b, accMax) }

// NegAcc returns the complement of all 16 bits.
func NegAcc(a api.Acc) api.Acc { return accMax - a }

// Overflow returns 1, -1 or 0 by the two sign bits.
func Overflow(a api.Acc) int {
	switch a & (accSign | wordSign) {
	case wordSign:
		return 1
	case accSign:
		return -1
	}
	return 0
}

// Correct returns the overflow-corrected word: the upper sign bit holds the sign of the sum even after an overflow.
func Correct(a api.Acc) api.Word {
	return api.Word((a&accSign)>>1 | a&api.MaxOne)
}

// Class returns 0 for a positive accumulator, 1 for +0, 2 for a negative one, 3 for -0.
func Class(a api.Acc) int {
	switch {
	case a == 0:
		return 1
	case a == accMax:
		return 3
	case a < accSign:
		return 0
	}
	return 2
}

// Diminish returns the magnitude less 1, but at least 0.
func Diminish(a api.Acc) api.Acc {
	if a >= accSign {
		a = NegAcc(a)
	}
	if a == 0 {
		return 0
	}
	return a - 1
}

// CycleRight rotates a word to the right by one bit.
func CycleRight(w api.Word) api.Word {
	return low(w)>>1 | (w&1)<<14
}

// CycleLeft rotates a word to the left by one bit.
func CycleLeft(w api.Word) api.Word {
	return low(w<<1) | (w&wordSign)>>14
}

// ShiftRight shifts a word to the right by one bit; the sign bit stays.
func ShiftRight(w api.Word) api.Word {
	return low(w)>>1 | w&wordSign
}

// Opcode returns bits 7 to 13 as a number.
func Opcode(w api.Word) api.Word { return (w >> 7) & opMax }

// editor is an erasable address where a write edits the word.
type editor struct {
	at    int
	apply func(api.Word) api.Word
}

// editors returns the editing operations with their addresses.
func editors() [4]editor {
	return [4]editor{
		{16, CycleRight},
		{17, ShiftRight},
		{18, CycleLeft},
		{19, Opcode},
	}
}

// Edit returns what a write of w to an erasable address stores.
func Edit(at int, w api.Word) api.Word {
	for _, e := range editors() {
		if e.at == at {
			return e.apply(w)
		}
	}
	return low(w)
}

// TwosDiff returns the difference of two angles in ones' complement. Half a turn back has no word of its own: it shares 16384 with the difference that is one greater.
func TwosDiff(a, b api.Word) api.Word {
	d := low(a - b)
	if d > wordSign {
		return d - 1
	}
	return d
}
