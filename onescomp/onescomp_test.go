package onescomp

import (
	"math"
	"slices"
	"testing"

	"perilune/api"
)

// eachWord calls f for every api.Word, with and without the highest bit, together with the number that its 15 low bits form.
func eachWord(f func(w api.Word, bits int)) {
	for n := range 65536 {
		f(api.Word(n), n%32768)
	}
}

// eachPair calls f for every api.Word a with every b at or beside a limit, both also with the highest bit set.
func eachPair(f func(a, b api.Word, na, nb int)) {
	edges := []int{0, 1, 2, 5, 100, 8191, 8192, 16382, 16383, 16384, 16385, 24576, 32765, 32766, 32767}
	eachWord(func(a api.Word, na int) {
		for _, n := range edges {
			f(a, api.Word(n), na, n)
			f(a, api.Word(n+32768), na, n)
		}
	})
}

// signed is the value of the number that 15 bits form, as DOC.md defines it.
func signed(bits int) int {
	if bits > 16383 {
		return bits - 32767
	}
	return bits
}

// check reports a result that is not the one wanted.
func check[T comparable](t *testing.T, got, want T, call string, args ...any) {
	t.Helper()
	if got != want {
		t.Fatalf("%s of %v = %v, want %v", call, args, got, want)
	}
}

// TestExamples tests the rows of the chapter's section Examples.
func TestExamples(t *testing.T) {
	rows := []struct {
		call      string
		got, want []int
	}{
		{"Value", []int{Value(5), Value(16383), Value(16384), Value(32766), Value(32767)}, []int{5, 16383, -16383, -1, 0}},
		{"Of", append(of(-1), append(of(0), of(16384)...)...), []int{32766, 0, 0, 0, 0, 3}},
		{"Add, Neg", numbers(Add(5, 32765), Add(32766, 1), Add(32766, 2), Add(16383, 1), Neg(0)), []int{3, 32767, 1, 16384, 32767}},
		{"Extend, AddAcc", numbers(Extend(32766), AddAcc(65534, 2), AddAcc(16383, 1)), []int{65534, 1, 16384}},
		{"Overflow", []int{Overflow(16384), Overflow(49151), Overflow(65535)}, []int{1, -1, 0}},
		{"Correct", numbers(Correct(16384), Correct(49151), Correct(65534)), []int{0, 32767, 32766}},
		{"Class", []int{Class(7), Class(0), Class(65530), Class(65535)}, []int{0, 1, 2, 3}},
		{"Diminish", numbers(Diminish(7), Diminish(65530), Diminish(65535)), []int{6, 4, 0}},
		{"editing", numbers(CycleRight(5), CycleLeft(16385), ShiftRight(16386), Opcode(32767), Edit(19, 16256), Edit(20, 5)), []int{16386, 3, 24577, 127, 127, 5}},
		{"TwosDiff", numbers(TwosDiff(3, 5), TwosDiff(5, 3), TwosDiff(0, 16384), TwosDiff(1, 32767)), []int{32765, 2, 16384, 2}},
	}
	for _, r := range rows {
		if !slices.Equal(r.got, r.want) {
			t.Errorf("%s: %v, want %v", r.call, r.got, r.want)
		}
	}
}

// of returns both results of Of as numbers.
func of(n int) []int {
	w, e := Of(n)
	return []int{int(w), int(e)}
}

// numbers returns words or accumulators as numbers.
func numbers[T api.Word | api.Acc](l ...T) []int {
	var out []int
	for _, w := range l {
		out = append(out, int(w))
	}
	return out
}

// TestValue tests P1.1.
func TestValue(t *testing.T) {
	for w, want := range map[api.Word]int{
		0: 0, 1: 1, 5: 5, 16382: 16382, 16383: 16383, 16384: -16383, 16385: -16382, 32766: -1, 32767: 0,
		32768: 0, 32769: 1, 49151: 16383, 49152: -16383, 65534: -1, 65535: 0,
	} {
		check(t, Value(w), want, "Value", w)
	}
	eachWord(func(w api.Word, bits int) {
		check(t, Value(w), signed(bits), "Value", w)
	})
}

// TestOf tests P1.1.
func TestOf(t *testing.T) {
	for n, want := range map[int]api.Word{0: 0, 1: 1, -1: 32766, 16383: 16383, -16382: 16385, -16383: 16384} {
		w, e := Of(n)
		check(t, e, api.OK, "error of Of", n)
		check(t, w, want, "Of", n)
	}
	for n := -16383; n <= 16383; n++ {
		w, e := Of(n)
		check(t, e, api.OK, "error of Of", n)
		check(t, signed(int(w)), n, "value of Of", n)
		if n == 0 {
			check(t, w, 0, "Of", n)
		}
		if w > api.MaxWord {
			t.Fatalf("Of(%d) = %d is not valid", n, w)
		}
	}
}

// TestOfOutOfRange tests P1.1.
func TestOfOutOfRange(t *testing.T) {
	for _, n := range []int{16384, -16384, 32767, -32767, 32768, 65535, 65536, -65536, 1 << 32, -1 << 32, math.MaxInt, math.MinInt} {
		w, e := Of(n)
		check(t, e, api.ErrRange, "error of Of", n)
		check(t, w, 0, "Of", n)
	}
}

// TestNeg tests P1.2.
func TestNeg(t *testing.T) {
	check(t, Neg(0), 32767, "Neg", 0)
	check(t, Neg(32767), 0, "Neg", 32767)
	check(t, Neg(16383), 16384, "Neg", 16383)
	eachWord(func(w api.Word, bits int) {
		check(t, int(Neg(w)), 32767-bits, "Neg", w)
	})
}

// TestAdd tests P1.2.
func TestAdd(t *testing.T) {
	for _, x := range [][3]api.Word{
		{5, 32765, 3}, {32766, 1, 32767}, {32766, 2, 1}, {16383, 1, 16384}, {0, 0, 0}, {0, 32767, 32767},
		{32767, 0, 32767}, {32767, 32767, 32767}, {32767, 1, 1}, {16384, 16384, 1}, {65535, 32769, 1}, {32768, 32768, 0},
	} {
		check(t, Add(x[0], x[1]), x[2], "Add", x[0], x[1])
	}
	eachPair(func(a, b api.Word, na, nb int) {
		want := na + nb
		if want > 32767 {
			want -= 32767
		}
		check(t, int(Add(a, b)), want, "Add", a, b)
		check(t, int(Add(b, a)), want, "Add", b, a)
	})
}

// TestAddHasTheSumOfTheValues tests P1.9.
func TestAddHasTheSumOfTheValues(t *testing.T) {
	eachPair(func(a, b api.Word, na, nb int) {
		if s := signed(na) + signed(nb); s >= -16383 && s <= 16383 {
			check(t, Value(Add(a, b)), s, "value of Add", a, b)
		}
	})
}

// TestExtend tests P1.3.
func TestExtend(t *testing.T) {
	for w, want := range map[api.Word]api.Acc{0: 0, 16383: 16383, 16384: 49152, 32766: 65534, 32767: 65535, 32768: 0, 65535: 65535, 49151: 16383, 49152: 49152} {
		check(t, Extend(w), want, "Extend", w)
	}
	eachWord(func(w api.Word, bits int) {
		want := bits
		if bits > 16383 {
			want += 32768
		}
		check(t, int(Extend(w)), want, "Extend", w)
	})
}

// TestAddAcc tests P1.3.
func TestAddAcc(t *testing.T) {
	for _, x := range [][3]api.Acc{
		{65534, 2, 1}, {16383, 1, 16384}, {0, 0, 0}, {65535, 0, 65535}, {65535, 65535, 65535}, {65534, 1, 65535},
		{65535, 1, 1}, {32767, 1, 32768}, {32768, 32768, 1}, {32768, 32767, 65535}, {49152, 49152, 32769},
	} {
		check(t, AddAcc(x[0], x[1]), x[2], "AddAcc", x[0], x[1])
	}
	for a := range 65536 {
		for _, b := range []int{0, 1, 2, 16383, 16384, 32767, 32768, 49151, 49152, 65534, 65535} {
			want := a + b
			if want > 65535 {
				want -= 65535
			}
			check(t, int(AddAcc(api.Acc(a), api.Acc(b))), want, "AddAcc", a, b)
			check(t, int(AddAcc(api.Acc(b), api.Acc(a))), want, "AddAcc", b, a)
		}
	}
}

// TestNegAcc tests P1.3.
func TestNegAcc(t *testing.T) {
	for a := range 65536 {
		check(t, int(NegAcc(api.Acc(a))), 65535-a, "NegAcc", a)
	}
}

// TestOverflow tests P1.4.
func TestOverflow(t *testing.T) {
	for a, want := range map[api.Acc]int{0: 0, 16383: 0, 16384: 1, 32767: 1, 32768: -1, 49151: -1, 49152: 0, 65535: 0} {
		check(t, Overflow(a), want, "Overflow", a)
	}
	for a := range 65536 {
		want := [4]int{0, 1, -1, 0}[a/16384]
		check(t, Overflow(api.Acc(a)), want, "Overflow", a)
	}
}

// TestCorrect tests P1.4.
func TestCorrect(t *testing.T) {
	for a, want := range map[api.Acc]api.Word{0: 0, 16383: 16383, 16384: 0, 32767: 16383, 32768: 16384, 49151: 32767, 49152: 16384, 65534: 32766, 65535: 32767} {
		check(t, Correct(a), want, "Correct", a)
	}
	for a := range 65536 {
		want := a/32768*16384 + a%16384
		check(t, int(Correct(api.Acc(a))), want, "Correct", a)
	}
}

// TestOverflowOfASum tests P1.9.
func TestOverflowOfASum(t *testing.T) {
	eachPair(func(a, b api.Word, na, nb int) {
		x, s, want := AddAcc(Extend(a), Extend(b)), signed(na)+signed(nb), 0
		if s > 16383 {
			want = 1
		} else if s < -16383 {
			want = -1
		}
		check(t, Overflow(x), want, "Overflow of the sum", a, b)
		check(t, Value(Correct(x)), s-16384*want, "value of Correct of the sum", a, b)
	})
}

// TestClass tests P1.5.
func TestClass(t *testing.T) {
	for a, want := range map[api.Acc]int{0: 1, 1: 0, 7: 0, 16384: 0, 32767: 0, 32768: 2, 49151: 2, 65530: 2, 65534: 2, 65535: 3} {
		check(t, Class(a), want, "Class", a)
	}
	for a := range 65536 {
		want := a / 32768 * 2
		if a == 0 || a == 65535 {
			want++
		}
		check(t, Class(api.Acc(a)), want, "Class", a)
	}
}

// TestDiminish tests P1.5.
func TestDiminish(t *testing.T) {
	for a, want := range map[api.Acc]api.Acc{0: 0, 1: 0, 2: 1, 7: 6, 32767: 32766, 32768: 32766, 65530: 4, 65533: 1, 65534: 0, 65535: 0} {
		check(t, Diminish(a), want, "Diminish", a)
	}
	for a := range 65536 {
		want := max(min(a, 65535-a)-1, 0)
		check(t, int(Diminish(api.Acc(a))), want, "Diminish", a)
	}
}

// TestCycleRight tests P1.6.
func TestCycleRight(t *testing.T) {
	for w, want := range map[api.Word]api.Word{0: 0, 1: 16384, 2: 1, 5: 16386, 16384: 8192, 32767: 32767, 32768: 0, 32769: 16384} {
		check(t, CycleRight(w), want, "CycleRight", w)
	}
	eachWord(func(w api.Word, bits int) {
		check(t, int(CycleRight(w)), bits/2+bits%2*16384, "CycleRight", w)
		check(t, int(CycleLeft(CycleRight(w))), bits, "CycleLeft of CycleRight", w)
	})
}

// TestCycleLeft tests P1.6.
func TestCycleLeft(t *testing.T) {
	for w, want := range map[api.Word]api.Word{0: 0, 1: 2, 8192: 16384, 16384: 1, 16385: 3, 32767: 32767, 32768: 0, 49152: 1} {
		check(t, CycleLeft(w), want, "CycleLeft", w)
	}
	eachWord(func(w api.Word, bits int) {
		check(t, int(CycleLeft(w)), bits%16384*2+bits/16384, "CycleLeft", w)
	})
}

// TestShiftRight tests P1.6 and P1.9.
func TestShiftRight(t *testing.T) {
	for w, want := range map[api.Word]api.Word{0: 0, 1: 0, 3: 1, 16383: 8191, 16384: 24576, 16386: 24577, 32766: 32767, 32767: 32767, 32768: 0, 49152: 24576} {
		check(t, ShiftRight(w), want, "ShiftRight", w)
	}
	eachWord(func(w api.Word, bits int) {
		check(t, int(ShiftRight(w)), bits/2+bits/16384*16384, "ShiftRight", w)
		check(t, Value(ShiftRight(w)), signed(bits)/2, "value of ShiftRight", w)
	})
}

// TestOpcode tests P1.6.
func TestOpcode(t *testing.T) {
	for w, want := range map[api.Word]api.Word{0: 0, 127: 0, 128: 1, 16256: 127, 16383: 127, 16384: 0, 32767: 127, 32768: 0, 65535: 127} {
		check(t, Opcode(w), want, "Opcode", w)
	}
	eachWord(func(w api.Word, bits int) {
		check(t, int(Opcode(w)), bits/128%128, "Opcode", w)
	})
}

// TestEdit tests P1.7.
func TestEdit(t *testing.T) {
	check(t, Edit(19, 16256), 127, "Edit", 19, 16256)
	check(t, Edit(20, 5), 5, "Edit", 20, 5)
	plain := []int{math.MinInt, -65520, -16, -1, 0, 7, 15, 20, 272, 2047, 2048, 65552, 1<<32 + 16, math.MaxInt}
	eachWord(func(w api.Word, bits int) {
		check(t, Edit(16, w), CycleRight(w), "Edit", 16, w)
		check(t, Edit(17, w), ShiftRight(w), "Edit", 17, w)
		check(t, Edit(18, w), CycleLeft(w), "Edit", 18, w)
		check(t, Edit(19, w), Opcode(w), "Edit", 19, w)
		for _, at := range plain {
			check(t, int(Edit(at, w)), bits, "Edit", at, w)
		}
	})
}

// TestTwosDiff tests P1.8.
func TestTwosDiff(t *testing.T) {
	for _, x := range [][3]api.Word{
		{3, 5, 32765}, {5, 3, 2}, {0, 16384, 16384}, {1, 32767, 2}, {0, 0, 0}, {7, 7, 0}, {32767, 32767, 0},
		{16383, 0, 16383}, {0, 16383, 16384}, {16384, 0, 16384}, {16385, 0, 16384}, {16386, 0, 16385}, {0, 1, 32766}, {32767, 0, 32766},
		{32771, 5, 32765}, {3, 32773, 32765}, {32768, 0, 0}, {0, 32768, 0},
	} {
		check(t, TwosDiff(x[0], x[1]), x[2], "TwosDiff", x[0], x[1])
	}
	eachPair(func(a, b api.Word, na, nb int) {
		check(t, int(TwosDiff(a, b)), turn(na, nb), "TwosDiff", a, b)
		check(t, int(TwosDiff(b, a)), turn(nb, na), "TwosDiff", b, a)
	})
}

// turn is P1.8 in plain numbers.
func turn(a, b int) int {
	d := (a - b + 32768) % 32768
	if d > 16384 {
		d--
	}
	return d
}
