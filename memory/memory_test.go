package memory

import (
	"math"
	"math/bits"
	"slices"
	"testing"

	"perilune/api"
)

// outside are numbers that lie in no range of the chapter; a conversion to fewer bits would bring some of them into one.
var outside = []int{-1, -2, -8, -256, -1024, -4096, 36864, 36865, 1 << 16, 1<<32 + 1, 1<<32 - 1, math.MaxInt, math.MaxInt - 1, math.MinInt, math.MinInt + 1}

// check reports a result that is not the one wanted.
func check[T comparable](t *testing.T, got, want T, call string, args ...any) {
	t.Helper()
	if got != want {
		t.Fatalf("%s of %v = %v, want %v", call, args, got, want)
	}
}

// number is the result of Bank and of Operand.
type number struct {
	n int
	e api.Errno
}

// place is the result of Absolute.
type place struct {
	s  api.Space
	at int
	e  api.Errno
}

func bank(fb, super int) number {
	n, e := Bank(fb, super)
	return number{n, e}
}

func absolute(k, eb, fb int) place {
	s, at, e := Absolute(k, eb, fb)
	return place{s, at, e}
}

func operand(s api.Space, at, eb, fb int) number {
	n, e := Operand(s, at, eb, fb)
	return number{n, e}
}

// put returns the stored word of the 15 low bits of n, by the definition of chapter 2.
func put(n int) api.Stored {
	n %= 32768
	if bits.OnesCount(uint(n))%2 == 0 {
		n += 32768
	}
	return api.Stored(n)
}

// puts returns the stored words of a list of numbers.
func puts(l ...int) []api.Stored {
	var out []api.Stored
	for _, n := range l {
		out = append(out, put(n))
	}
	return out
}

// TestExamples tests the rows of the chapter's section Examples.
func TestExamples(t *testing.T) {
	check(t, bank(5, 7), number{5, api.OK}, "Bank", 5, 7)
	check(t, bank(24, 3), number{24, api.OK}, "Bank", 24, 3)
	check(t, bank(24, 4), number{32, api.OK}, "Bank", 24, 4)
	check(t, bank(27, 7), number{35, api.OK}, "Bank", 27, 7)
	check(t, bank(28, 4), number{0, api.ErrRange}, "Bank", 28, 4)
	check(t, bank(32, 0), number{0, api.ErrRange}, "Bank", 32, 0)
	check(t, absolute(767, 5, 9), place{api.SpaceErasable, 767, api.OK}, "Absolute", 767, 5, 9)
	check(t, absolute(768, 5, 9), place{api.SpaceErasable, 1280, api.OK}, "Absolute", 768, 5, 9)
	check(t, absolute(1024, 5, 9), place{api.SpaceFixed, 9216, api.OK}, "Absolute", 1024, 5, 9)
	check(t, absolute(2048, 5, 9), place{api.SpaceFixed, 2048, api.OK}, "Absolute", 2048, 5, 9)
	check(t, absolute(4096, 0, 0), place{0, 0, api.ErrRange}, "Absolute", 4096, 0, 0)
	check(t, operand(api.SpaceErasable, 300, 5, 9), number{300, api.OK}, "Operand", "erasable", 300, 5, 9)
	check(t, operand(api.SpaceErasable, 1281, 5, 9), number{769, api.OK}, "Operand", "erasable", 1281, 5, 9)
	check(t, operand(api.SpaceErasable, 1281, 4, 9), number{0, api.ErrRange}, "Operand", "erasable", 1281, 4, 9)
	check(t, operand(api.SpaceFixed, 9217, 5, 9), number{1025, api.OK}, "Operand", "fixed", 9217, 5, 9)
	check(t, operand(api.SpaceFixed, 3000, 5, 2), number{3000, api.OK}, "Operand", "fixed", 3000, 5, 2)
	check(t, operand(0, 0, 5, 9), number{0, api.ErrArg}, "Operand", "space 0", 0, 5, 9)
}

// TestExamplesOfMemories tests the rows of the chapter's section Examples that concern memories.
func TestExamplesOfMemories(t *testing.T) {
	l, e := Fixed([]api.Bank{{Number: 1, Words: []api.Word{5, 6}}})
	check(t, e, api.OK, "error of Fixed")
	check(t, len(l), 36864, "length of Fixed")
	if got := Words(l[1024:1027]); !slices.Equal(got, []api.Word{5, 6, 0}) {
		t.Errorf("the words 1024 to 1026 of Fixed: %v", got)
	}
	checkFixed(t, api.ErrDuplicate, []api.Bank{{Number: 1, Words: []api.Word{5}}, {Number: 1, Words: []api.Word{6}}})
	checkFixed(t, api.ErrRange, []api.Bank{{Number: 36}})
	checkRead(t, []api.Stored{32768, 0}, 0, 0, api.OK)
	checkRead(t, []api.Stored{32768, 0}, 1, 0, api.ErrParity)
	checkRead(t, []api.Stored{32768, 0}, 2, 0, api.ErrRange)
	checkWrite(t, []api.Stored{32768, 0}, 1, 3, []api.Stored{32768, 32771}, api.OK)
	checkApply(t, []api.Stored{32768}, []api.Cell{{At: 0, W: 1}, {At: 0, W: 2}}, []api.Stored{2}, api.OK)
}

// checkFixed compares the error of Fixed; no memory may come with an error.
func checkFixed(t *testing.T, want api.Errno, l []api.Bank) {
	t.Helper()
	got, e := Fixed(l)
	if e != want || e != api.OK && len(got) != 0 {
		t.Errorf("Fixed of %v: %d words, %v, want %v", l, len(got), e, want)
	}
}

// checkRead compares both results of Read.
func checkRead(t *testing.T, l []api.Stored, at int, want api.Word, code api.Errno) {
	t.Helper()
	got, e := Read(l, at)
	if got != want || e != code {
		t.Fatalf("Read of %v, %d = %d, %v, want %d, %v", l, at, got, e, want, code)
	}
}

// checkWrite compares both results of Write.
func checkWrite(t *testing.T, l []api.Stored, at int, w api.Word, want []api.Stored, code api.Errno) {
	t.Helper()
	got, e := Write(l, at, w)
	if !slices.Equal(got, want) || e != code {
		t.Fatalf("Write of %v, %d, %d = %v, %v, want %v, %v", l, at, w, got, e, want, code)
	}
}

// checkApply compares both results of Apply.
func checkApply(t *testing.T, l []api.Stored, c []api.Cell, want []api.Stored, code api.Errno) {
	t.Helper()
	got, e := Apply(l, c)
	if !slices.Equal(got, want) || e != code {
		t.Fatalf("Apply of %v, %v = %v, %v, want %v, %v", l, c, got, e, want, code)
	}
}

// TestBank tests P3.1 for all values of both registers.
func TestBank(t *testing.T) {
	for fb := range 32 {
		for super := range 8 {
			want := number{fb, api.OK}
			if fb >= 24 && super >= 4 {
				want = number{fb + 8, api.OK}
			}
			if want.n > 35 {
				want = number{0, api.ErrRange}
			}
			check(t, bank(fb, super), want, "Bank", fb, super)
		}
	}
}

// TestBankAtItsLimits tests P3.1 where a range begins or ends.
func TestBankAtItsLimits(t *testing.T) {
	rows := []struct {
		fb, super int
		want      number
	}{
		{0, 0, number{0, api.OK}},
		{0, 7, number{0, api.OK}},
		{23, 3, number{23, api.OK}},
		{23, 4, number{23, api.OK}},
		{23, 7, number{23, api.OK}},
		{24, 0, number{24, api.OK}},
		{24, 7, number{32, api.OK}},
		{27, 3, number{27, api.OK}},
		{27, 4, number{35, api.OK}},
		{28, 3, number{28, api.OK}},
		{28, 7, number{0, api.ErrRange}},
		{31, 0, number{31, api.OK}},
		{31, 3, number{31, api.OK}},
		{31, 4, number{0, api.ErrRange}},
	}
	for _, r := range rows {
		check(t, bank(r.fb, r.super), r.want, "Bank", r.fb, r.super)
	}
}

// TestBankOutOfRange tests P3.1: one number out of range, or both.
func TestBankOutOfRange(t *testing.T) {
	refused := number{0, api.ErrRange}
	for _, n := range append([]int{32, 33, 35, 36, 64}, outside...) {
		for super := range 8 {
			check(t, bank(n, super), refused, "Bank", n, super)
		}
		check(t, bank(n, n), refused, "Bank", n, n)
	}
	for _, n := range append([]int{8, 9, 12, 16, 32}, outside...) {
		for fb := range 32 {
			check(t, bank(fb, n), refused, "Bank", fb, n)
		}
	}
}

// wordOf returns the word that the operand k addresses, read off the table of the chapter's section Terms.
func wordOf(k, eb, fb int) place {
	switch {
	case k <= 767:
		return place{api.SpaceErasable, k, api.OK}
	case k <= 1023:
		return place{api.SpaceErasable, 256*eb + (k - 768), api.OK}
	case k <= 2047:
		return place{api.SpaceFixed, 1024*fb + (k - 1024), api.OK}
	}
	return place{api.SpaceFixed, k, api.OK}
}

// eachPair calls f for all pairs of selected banks.
func eachPair(f func(eb, fb int)) {
	for eb := range 8 {
		for fb := range 36 {
			f(eb, fb)
		}
	}
}

// TestAbsolute tests P3.2 for all operands and all banks.
func TestAbsolute(t *testing.T) {
	eachPair(func(eb, fb int) {
		for k := range 4096 {
			check(t, absolute(k, eb, fb), wordOf(k, eb, fb), "Absolute", k, eb, fb)
		}
	})
}

// TestAbsoluteAtItsLimits tests P3.2 where a row of the table begins or ends.
func TestAbsoluteAtItsLimits(t *testing.T) {
	rows := []struct {
		k, eb, fb int
		want      place
	}{
		{0, 7, 35, place{api.SpaceErasable, 0, api.OK}},
		{767, 7, 35, place{api.SpaceErasable, 767, api.OK}},
		{768, 0, 0, place{api.SpaceErasable, 0, api.OK}},
		{768, 7, 35, place{api.SpaceErasable, 1792, api.OK}},
		{1023, 0, 0, place{api.SpaceErasable, 255, api.OK}},
		{1023, 7, 35, place{api.SpaceErasable, 2047, api.OK}},
		{1024, 7, 0, place{api.SpaceFixed, 0, api.OK}},
		{1024, 7, 35, place{api.SpaceFixed, 35840, api.OK}},
		{2047, 0, 0, place{api.SpaceFixed, 1023, api.OK}},
		{2047, 7, 35, place{api.SpaceFixed, 36863, api.OK}},
		{2048, 7, 35, place{api.SpaceFixed, 2048, api.OK}},
		{4095, 7, 35, place{api.SpaceFixed, 4095, api.OK}},
	}
	for _, r := range rows {
		check(t, absolute(r.k, r.eb, r.fb), r.want, "Absolute", r.k, r.eb, r.fb)
	}
}

// TestAbsoluteOutOfRange tests P3.2; the banks count for operands that do not need them, too.
func TestAbsoluteOutOfRange(t *testing.T) {
	refused := place{0, 0, api.ErrRange}
	for _, k := range append([]int{4096, 4097, 8192}, outside...) {
		check(t, absolute(k, 0, 0), refused, "Absolute", k, 0, 0)
		check(t, absolute(k, 7, 35), refused, "Absolute", k, 7, 35)
	}
	for _, k := range []int{0, 767, 768, 1023, 1024, 2047, 2048, 4095} {
		for _, eb := range append([]int{8, 9, 16}, outside...) {
			check(t, absolute(k, eb, 0), refused, "Absolute", k, eb, 0)
		}
		for _, fb := range append([]int{36, 37, 40, 64}, outside...) {
			check(t, absolute(k, 0, fb), refused, "Absolute", k, 0, fb)
		}
	}
}

// operandsOf returns the operand of each word of both memories, and -1 for a word that no operand addresses. It writes the switched operands first, so that the unswitched ones replace them.
func operandsOf(eb, fb int) (erasable [2048]int, fixed [36864]int) {
	for at := range erasable {
		erasable[at] = -1
	}
	for at := range fixed {
		fixed[at] = -1
	}
	for n := range 256 {
		erasable[256*eb+n] = 768 + n
	}
	for n := range 1024 {
		fixed[1024*fb+n] = 1024 + n
	}
	for k := range 768 {
		erasable[k] = k
	}
	for k := 2048; k <= 4095; k++ {
		fixed[k] = k
	}
	return erasable, fixed
}

// checkOperands compares Operand with a list of operands, one for each address of a space.
func checkOperands(t *testing.T, s api.Space, eb, fb int, l []int) {
	t.Helper()
	for at, k := range l {
		want := number{k, api.OK}
		if k < 0 {
			want = number{0, api.ErrRange}
		}
		check(t, operand(s, at, eb, fb), want, "Operand", s, at, eb, fb)
	}
}

// TestOperand tests P3.3 for all words and all banks.
func TestOperand(t *testing.T) {
	eachPair(func(eb, fb int) {
		erasable, fixed := operandsOf(eb, fb)
		checkOperands(t, api.SpaceErasable, eb, fb, erasable[:])
		checkOperands(t, api.SpaceFixed, eb, fb, fixed[:])
	})
}

// TestOperandAtItsLimits tests P3.3 where a range begins or ends, and for words with two operands.
func TestOperandAtItsLimits(t *testing.T) {
	rows := []struct {
		s          api.Space
		at, eb, fb int
		want       number
	}{
		{api.SpaceErasable, 0, 0, 0, number{0, api.OK}},
		{api.SpaceErasable, 767, 2, 0, number{767, api.OK}},
		{api.SpaceErasable, 768, 3, 0, number{768, api.OK}},
		{api.SpaceErasable, 768, 2, 0, number{0, api.ErrRange}},
		{api.SpaceErasable, 1023, 3, 0, number{1023, api.OK}},
		{api.SpaceErasable, 1024, 3, 0, number{0, api.ErrRange}},
		{api.SpaceErasable, 2047, 7, 0, number{1023, api.OK}},
		{api.SpaceErasable, 2048, 7, 0, number{0, api.ErrRange}},
		{api.SpaceFixed, 0, 0, 0, number{1024, api.OK}},
		{api.SpaceFixed, 0, 0, 1, number{0, api.ErrRange}},
		{api.SpaceFixed, 2047, 0, 1, number{2047, api.OK}},
		{api.SpaceFixed, 2047, 0, 2, number{0, api.ErrRange}},
		{api.SpaceFixed, 2048, 0, 2, number{2048, api.OK}},
		{api.SpaceFixed, 2048, 0, 0, number{2048, api.OK}},
		{api.SpaceFixed, 4095, 0, 3, number{4095, api.OK}},
		{api.SpaceFixed, 4096, 0, 4, number{1024, api.OK}},
		{api.SpaceFixed, 4096, 0, 3, number{0, api.ErrRange}},
		{api.SpaceFixed, 36863, 0, 35, number{2047, api.OK}},
		{api.SpaceFixed, 36863, 0, 34, number{0, api.ErrRange}},
		{api.SpaceFixed, 36864, 0, 35, number{0, api.ErrRange}},
	}
	for _, r := range rows {
		check(t, operand(r.s, r.at, r.eb, r.fb), r.want, "Operand", r.s, r.at, r.eb, r.fb)
	}
}

// TestOperandOutOfRange tests P3.3; both banks count for each space.
func TestOperandOutOfRange(t *testing.T) {
	refused := number{0, api.ErrRange}
	for _, s := range []api.Space{api.SpaceErasable, api.SpaceFixed} {
		for _, at := range outside {
			check(t, operand(s, at, 0, 0), refused, "Operand", s, at, 0, 0)
			check(t, operand(s, at, 7, 35), refused, "Operand", s, at, 7, 35)
		}
		for _, at := range []int{0, 100, 2047, 2048, 3000} {
			for _, eb := range append([]int{8, 9, 16}, outside...) {
				check(t, operand(s, at, eb, 0), refused, "Operand", s, at, eb, 0)
			}
			for _, fb := range append([]int{36, 37, 40, 64}, outside...) {
				check(t, operand(s, at, 0, fb), refused, "Operand", s, at, 0, fb)
			}
		}
	}
}

// TestOperandOfNoMemory tests P3.3: of several errors, that of the space comes first.
func TestOperandOfNoMemory(t *testing.T) {
	refused := number{0, api.ErrArg}
	for s := range 256 {
		if s == int(api.SpaceErasable) || s == int(api.SpaceFixed) {
			continue
		}
		for _, n := range append([]int{0, 5, 300, 36}, outside...) {
			check(t, operand(api.Space(s), n, 0, 0), refused, "Operand", s, n, 0, 0)
			check(t, operand(api.Space(s), 0, n, 0), refused, "Operand", s, 0, n, 0)
			check(t, operand(api.Space(s), 0, 0, n), refused, "Operand", s, 0, 0, n)
			check(t, operand(api.Space(s), n, n, n), refused, "Operand", s, n, n, n)
		}
	}
}

// checkFixedWords compares the memory that Fixed returns with one that is 0 but for the given numbers.
func checkFixedWords(t *testing.T, l []api.Bank, want map[int]int) {
	t.Helper()
	got, e := Fixed(l)
	check(t, e, api.OK, "error of Fixed")
	check(t, len(got), 36864, "length of Fixed")
	for at, s := range got {
		check(t, s, put(want[at]), "Fixed at", at)
	}
}

// TestFixed tests P3.4.
func TestFixed(t *testing.T) {
	checkFixedWords(t, nil, nil)
	checkFixedWords(t, []api.Bank{}, nil)
	checkFixedWords(t, []api.Bank{{}}, nil)
	checkFixedWords(t, []api.Bank{{Number: 35}, {Number: 2, Words: []api.Word{}}}, nil)
	checkFixedWords(t, []api.Bank{{Number: 0, Words: []api.Word{7, 32767}}}, map[int]int{0: 7, 1: 32767})
	checkFixedWords(t, []api.Bank{
		{Number: 35, Words: []api.Word{1, 0, 3}},
		{Number: 4, Words: []api.Word{0, 16384}},
		{Number: 0, Words: []api.Word{32766}},
		{Number: 34},
		{Number: 5, Words: []api.Word{9}},
	}, map[int]int{35840: 1, 35842: 3, 4097: 16384, 0: 32766, 5120: 9})
}

// TestFixedOfFullBanks tests P3.4: a bank of 1024 words ends where the next bank begins, in whatever order they come.
func TestFixedOfFullBanks(t *testing.T) {
	var up, down []api.Bank
	want := map[int]int{}
	for number := range 36 {
		words := make([]api.Word, 1024)
		for n := range words {
			at := 1024*number + n
			want[at] = at % 32749
			words[n] = api.Word(want[at])
		}
		up = append(up, api.Bank{Number: number, Words: words})
		down = append([]api.Bank{{Number: number, Words: words}}, down...)
	}
	checkFixedWords(t, up, want)
	checkFixedWords(t, down, want)
}

// TestFixedRefusesABank tests P3.4: each error of a bank, at the limits.
func TestFixedRefusesABank(t *testing.T) {
	for _, n := range append([]int{36, 37, 64, 1024}, outside...) {
		checkFixed(t, api.ErrRange, []api.Bank{{Number: n}})
	}
	full := make([]api.Word, 1024)
	long := make([]api.Word, 1025)
	longer := make([]api.Word, 70000)
	checkFixed(t, api.OK, []api.Bank{{Number: 35, Words: full}})
	checkFixed(t, api.ErrLimit, []api.Bank{{Number: 0, Words: long}})
	checkFixed(t, api.ErrLimit, []api.Bank{{Number: 35, Words: long}})
	checkFixed(t, api.ErrLimit, []api.Bank{{Number: 1, Words: longer}})
	checkFixed(t, api.OK, []api.Bank{{Number: 1, Words: []api.Word{32767}}})
	checkFixed(t, api.ErrRange, []api.Bank{{Number: 1, Words: []api.Word{32768}}})
	checkFixed(t, api.ErrRange, []api.Bank{{Number: 1, Words: []api.Word{0, 0, 65535}}})
	last := slices.Clone(full)
	last[1023] = 32769
	checkFixed(t, api.ErrRange, []api.Bank{{Number: 1, Words: last}})
	checkFixed(t, api.ErrDuplicate, []api.Bank{{Number: 0}, {Number: 35}, {Number: 0}})
	checkFixed(t, api.ErrDuplicate, []api.Bank{{Number: 35}, {Number: 3}, {Number: 35}})
}

// TestFixedOrderOfErrors tests P3.4 for memories with several errors: the first bank with an error decides, and within it the error that the promise names first.
func TestFixedOrderOfErrors(t *testing.T) {
	wrong := []api.Word{32768}
	long := make([]api.Word, 1025)
	longAndWrong := slices.Repeat(wrong, 1025)
	good := api.Bank{Number: 1, Words: []api.Word{1}}
	checkFixed(t, api.ErrRange, []api.Bank{{Number: -1, Words: longAndWrong}})
	checkFixed(t, api.ErrRange, []api.Bank{{Number: 36, Words: long}})
	checkFixed(t, api.ErrLimit, []api.Bank{{Number: 2, Words: longAndWrong}})
	checkFixed(t, api.ErrDuplicate, []api.Bank{good, {Number: 1, Words: longAndWrong}})
	checkFixed(t, api.ErrDuplicate, []api.Bank{good, {Number: 1, Words: wrong}})
	checkFixed(t, api.ErrDuplicate, []api.Bank{good, good, {Number: 36}})
	checkFixed(t, api.ErrRange, []api.Bank{good, {Number: 36}, good})
	checkFixed(t, api.ErrRange, []api.Bank{good, {Number: 2, Words: wrong}, good})
	checkFixed(t, api.ErrRange, []api.Bank{good, {Number: 2, Words: wrong}, {Number: 3, Words: long}})
	checkFixed(t, api.ErrLimit, []api.Bank{good, {Number: 3, Words: long}, {Number: 2, Words: wrong}})
	checkFixed(t, api.ErrLimit, []api.Bank{good, {Number: 3, Words: long}, {Number: 36}})
	checkFixed(t, api.ErrLimit, []api.Bank{good, {Number: 3, Words: long}, good})
	checkFixed(t, api.ErrRange, []api.Bank{{Number: 36}, {Number: 36}})
}

// TestErasable tests P3.4, and with rule 5 that each call returns a memory of its own.
func TestErasable(t *testing.T) {
	l := Erasable()
	check(t, len(l), 2048, "length of Erasable")
	for at := range l {
		check(t, l[at], 32768, "Erasable at", at)
		l[at] = 1
	}
	for at, s := range Erasable() {
		check(t, s, 32768, "a later Erasable at", at)
	}
}

// TestRead tests P3.5 for all stored words.
func TestRead(t *testing.T) {
	var l []api.Stored
	for n := range 65536 {
		l = append(l, api.Stored(65535-n))
	}
	for at, s := range l {
		if bits.OnesCount16(uint16(s))%2 == 1 {
			checkReadOfAll(t, l, at, api.Word(s%32768), api.OK)
		} else {
			checkReadOfAll(t, l, at, 0, api.ErrParity)
		}
	}
}

// checkReadOfAll is checkRead for a memory that is too long to be printed.
func checkReadOfAll(t *testing.T, l []api.Stored, at int, want api.Word, code api.Errno) {
	t.Helper()
	got, e := Read(l, at)
	check(t, got, want, "word of Read", at)
	check(t, e, code, "error of Read", at)
}

// TestReadOutOfRange tests P3.5: the length of the slice counts, not its capacity and not the size of a memory.
func TestReadOutOfRange(t *testing.T) {
	l := puts(1, 2, 3)
	for _, at := range append([]int{3, 4, 2048}, outside...) {
		checkRead(t, l, at, 0, api.ErrRange)
		checkRead(t, nil, at, 0, api.ErrRange)
	}
	checkRead(t, l, 2, 3, api.OK)
	checkRead(t, l[:2], 2, 0, api.ErrRange)
	checkRead(t, nil, 0, 0, api.ErrRange)
	checkRead(t, []api.Stored{}, 0, 0, api.ErrRange)
	checkRead(t, []api.Stored{0}, 1, 0, api.ErrRange)
}

// TestWrite tests P3.6 for all words, with and without the highest bit.
func TestWrite(t *testing.T) {
	for n := range 65536 {
		checkWrite(t, []api.Stored{5, 6, 7}, n%3, api.Word(n), slices.Replace([]api.Stored{5, 6, 7}, n%3, n%3+1, put(n)), api.OK)
	}
}

// TestWriteKeepsOtherWords tests P3.6: stored words of wrong parity stay as they are, and an editing address stores what is written.
func TestWriteKeepsOtherWords(t *testing.T) {
	checkWrite(t, []api.Stored{0}, 0, 0, []api.Stored{32768}, api.OK)
	checkWrite(t, []api.Stored{0, 65535, 3}, 1, 32767, []api.Stored{0, 32767, 3}, api.OK)
	m := Erasable()
	for _, at := range []int{0, 16, 17, 18, 19, 768, 2047} {
		got, e := Write(m, at, 3)
		check(t, e, api.OK, "error of Write", at)
		check(t, len(got), 2048, "length of Write", at)
		for n, s := range got {
			if n == at {
				check(t, s, 32771, "written word", at)
			} else {
				check(t, s, 32768, "other word", at, n)
			}
		}
	}
}

// TestWriteOutOfRange tests P3.6.
func TestWriteOutOfRange(t *testing.T) {
	l := puts(1, 2, 3)
	for _, at := range append([]int{3, 4, 2048}, outside...) {
		checkWrite(t, l, at, 1, nil, api.ErrRange)
		checkWrite(t, nil, at, 1, nil, api.ErrRange)
	}
	checkWrite(t, l[:2], 2, 1, nil, api.ErrRange)
	checkWrite(t, nil, 0, 0, nil, api.ErrRange)
	checkWrite(t, []api.Stored{}, 0, 0, nil, api.ErrRange)
}

// TestApply tests P3.6: all cells are written, and of several for one address the last one counts.
func TestApply(t *testing.T) {
	l := puts(10, 11, 12, 13)
	checkApply(t, nil, nil, nil, api.OK)
	checkApply(t, []api.Stored{}, []api.Cell{}, nil, api.OK)
	checkApply(t, l, nil, puts(10, 11, 12, 13), api.OK)
	checkApply(t, []api.Stored{0, 65535}, nil, []api.Stored{0, 65535}, api.OK)
	checkApply(t, l, []api.Cell{{At: 3, W: 32767}}, puts(10, 11, 12, 32767), api.OK)
	checkApply(t, l, []api.Cell{{At: 3, W: 1}, {At: 0, W: 2}}, puts(2, 11, 12, 1), api.OK)
	checkApply(t, l, []api.Cell{{At: 1, W: 1}, {At: 2, W: 2}, {At: 1, W: 3}, {At: 2, W: 0}}, puts(10, 3, 0, 13), api.OK)
	checkApply(t, l, []api.Cell{{At: 0, W: 32769}, {At: 1, W: 65535}}, puts(1, 32767, 12, 13), api.OK)
	checkApply(t, []api.Stored{0, 0, 0}, []api.Cell{{At: 1, W: 0}}, []api.Stored{0, 32768, 0}, api.OK)
}

// TestApplyOutOfRange tests P3.6: a cell anywhere in the list is refused, and so is the whole list.
func TestApplyOutOfRange(t *testing.T) {
	l := puts(10, 11)
	for _, at := range append([]int{2, 3, 2048}, outside...) {
		checkApply(t, l, []api.Cell{{At: at, W: 1}}, nil, api.ErrRange)
		checkApply(t, l, []api.Cell{{At: 0, W: 1}, {At: at, W: 1}}, nil, api.ErrRange)
		checkApply(t, l, []api.Cell{{At: at, W: 1}, {At: 1, W: 1}}, nil, api.ErrRange)
		checkApply(t, l, []api.Cell{{At: 0, W: 1}, {At: at, W: 1}, {At: 1, W: 1}}, nil, api.ErrRange)
	}
	checkApply(t, nil, []api.Cell{{}}, nil, api.ErrRange)
	checkApply(t, l[:1], []api.Cell{{At: 1, W: 1}}, nil, api.ErrRange)
}

// TestApplyIsWriteInOrder tests P3.6: Apply returns what Write returns for one cell after the other.
func TestApplyIsWriteInOrder(t *testing.T) {
	l := puts(0, 1, 2, 3, 4, 5, 6)
	want := slices.Clone(l)
	var c []api.Cell
	for n := range 200 {
		x := api.Cell{At: n * n % 7, W: api.Word(n * 331)}
		c = append(c, x)
		want, _ = Write(want, x.At, x.W)
		checkApply(t, l, c, want, api.OK)
	}
}

// TestWords tests P3.7 for all stored words.
func TestWords(t *testing.T) {
	check(t, len(Words(nil)), 0, "length of Words", "nil")
	check(t, len(Words([]api.Stored{})), 0, "length of Words", "an empty memory")
	if got := Words([]api.Stored{0, 32768, 1, 32769, 65535, 1}); !slices.Equal(got, []api.Word{0, 0, 1, 1, 32767, 1}) {
		t.Errorf("Words: %v", got)
	}
	var l []api.Stored
	for n := range 65536 {
		l = append(l, api.Stored(65535-n))
	}
	got := Words(l)
	check(t, len(got), 65536, "length of Words")
	for n, w := range got {
		check(t, w, api.Word((65535-n)%32768), "Words at", n)
	}
}

// TestOperandThenAbsolute tests P3.8: Absolute takes what Operand returns back to the word.
func TestOperandThenAbsolute(t *testing.T) {
	sizes := map[api.Space]int{api.SpaceErasable: 2048, api.SpaceFixed: 36864}
	eachPair(func(eb, fb int) {
		for s, size := range sizes {
			for at := range size {
				if r := operand(s, at, eb, fb); r.e == api.OK {
					check(t, absolute(r.n, eb, fb), place{s, at, api.OK}, "Absolute of Operand", s, at, eb, fb)
				}
			}
		}
	})
}

// TestAbsoluteThenOperand tests P3.8: Operand returns k itself, or the unswitched operand of the same word.
func TestAbsoluteThenOperand(t *testing.T) {
	eachPair(func(eb, fb int) {
		for k := range 4096 {
			p := absolute(k, eb, fb)
			r := operand(p.s, p.at, eb, fb)
			check(t, r.e, api.OK, "error of Operand of Absolute", k, eb, fb)
			switched := k >= 768 && k < 2048
			two := p.s == api.SpaceErasable && p.at < 768 || p.s == api.SpaceFixed && p.at/2048 == 1
			if switched && two {
				check(t, r.n, p.at, "Operand of Absolute", k, eb, fb)
			} else {
				check(t, r.n, k, "Operand of Absolute", k, eb, fb)
			}
		}
	})
}

// TestArgumentsStayAsTheyAre tests P3.4 to P3.7 with rule 5: no slice that is passed is modified, nor its spare capacity, and no result shares its memory.
func TestArgumentsStayAsTheyAre(t *testing.T) {
	stored := []api.Stored{0, 1, 65535, 3, 8, 10}
	cells := []api.Cell{{At: 0, W: 65535}, {At: 3, W: 9}, {At: 1, W: 1}, {At: 2, W: 2}}
	words := []api.Word{1, 2, 3, 65535}
	banks := []api.Bank{{Number: 3, Words: words[:3]}, {Number: 2}, {Number: 9}}
	written, _ := Write(stored[:4], 1, 32770)
	applied, _ := Apply(stored[:4], cells[:2])
	copied, _ := Apply(stored[:4], nil)
	fixed, _ := Fixed(banks[:2])
	got := Words(stored[:4])
	Read(stored[:4], 0)
	for _, l := range [][]api.Stored{written, applied, copied, fixed} {
		for at := range l {
			l[at] = 77
		}
	}
	for at := range got {
		got[at] = 77
	}
	if !slices.Equal(stored, []api.Stored{0, 1, 65535, 3, 8, 10}) {
		t.Errorf("a memory was changed: %v", stored)
	}
	if !slices.Equal(cells, []api.Cell{{At: 0, W: 65535}, {At: 3, W: 9}, {At: 1, W: 1}, {At: 2, W: 2}}) {
		t.Errorf("cells were changed: %v", cells)
	}
	if !slices.Equal(words, []api.Word{1, 2, 3, 65535}) {
		t.Errorf("the words of a bank were changed: %v", words)
	}
	if banks[0].Number != 3 || len(banks[0].Words) != 3 || banks[1].Number != 2 || banks[1].Words != nil || banks[2].Number != 9 {
		t.Errorf("banks were changed: %v", banks)
	}
}
