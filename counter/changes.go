package counter

import (
	"perilune/api"
	"perilune/onescomp"
)

const (
	sign     = 1 << 14         // the sign bit of a word, which is also the most negative word
	minusOne = api.MaxWord - 1 // -1 in ones' complement
)

// change is what a pulse does to a valid word: it returns the new word and the signal.
type change func(w api.Word) (api.Word, int)

// changes returns the changes of the kinds of pulses; PulseNone has none.
func changes() [api.PulseShift1 + 1]change {
	up, down := turned(1), turned(api.MaxWord)
	return [...]change{
		api.PulsePlus:      counted(1, api.MaxOne, 0, 1),
		api.PulseMinus:     counted(minusOne, sign, api.MaxWord, -1),
		api.PulsePlusTwos:  up,
		api.PulseMinusTwos: down,
		api.PulseDiminish:  diminished(up, down),
		api.PulseShift0:    shifted(0),
		api.PulseShift1:    shifted(1),
	}
}

// counted returns the change that adds step in ones' complement. At the word last, which has no successor, it starts again with the word first and signals.
func counted(step, last, first api.Word, signal int) change {
	return func(w api.Word) (api.Word, int) {
		if w == last {
			return first, signal
		}
		return onescomp.Add(w, step), 0
	}
}

// turned returns the change that adds step modulo a whole turn, 32768.
func turned(step api.Word) change {
	return func(w api.Word) (api.Word, int) {
		return (w + step) & api.MaxWord, 0
	}
}

// diminished returns the change that takes a word one nearer to its zero, and signals the side that it came from.
func diminished(up, down change) change {
	return func(w api.Word) (api.Word, int) {
		n := onescomp.Value(w)
		if n > 0 {
			w, _ = down(w)
			return w, 1
		}
		if n < 0 {
			w, _ = up(w)
			return w, -1
		}
		return w, 0
	}
}

// shifted returns the change that moves a bit in at the lower end and signals the bit that leaves at the upper end.
func shifted(bit api.Word) change {
	return func(w api.Word) (api.Word, int) {
		return (w<<1 | bit) & api.MaxWord, int(w&sign) / sign
	}
}
