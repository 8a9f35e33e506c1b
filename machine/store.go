package machine

import (
	"perilune/api"
	"perilune/memory"
	"perilune/parity"
)

// store is a memory. It keeps its words beside its stored words because an instruction's view takes all of them as words: to extract them each time would take far longer than the instruction.
type store struct {
	stored []api.Stored
	words  []api.Word
}

// storeOf returns the memory with these stored words.
func storeOf(l []api.Stored) store {
	return store{stored: l, words: memory.Words(l)}
}

// copyOf returns new memory with the elements of l.
func copyOf[T any](l []T) []T {
	out := make([]T, len(l))
	copy(out, l)
	return out
}

// copied returns an independent copy of a memory.
func (s store) copied() store {
	return store{stored: copyOf(s.stored), words: copyOf(s.words)}
}

// isRight reports whether the parity at an address is right.
func (s store) isRight(at int) bool {
	_, right := parity.Get(s.stored[at])
	return right
}

// set replaces the stored word at an address.
func (s store) set(at int, x api.Stored) {
	s.stored[at] = x
	s.words[at], _ = parity.Get(x)
}

// write writes cells with right parity, in order.
func (s store) write(cells ...api.Cell) {
	for _, c := range cells {
		s.set(c.At, parity.Put(c.W))
	}
}
