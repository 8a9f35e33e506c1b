package interrupt

import (
	"math"
	"slices"
	"testing"

	"perilune/api"
)

// check reports a result that is not the one wanted.
func check[T comparable](t *testing.T, got, want T, call string, args ...any) {
	t.Helper()
	if got != want {
		t.Fatalf("%s of %v = %v, want %v", call, args, got, want)
	}
}

// rupts returns the pending interrupts with these numbers.
func rupts(l ...int) api.Rupts {
	var s api.Rupts
	for _, n := range l {
		s.Pending += 1 << n
	}
	return s
}

// checkRequest compares the results of Request.
func checkRequest(t *testing.T, s api.Rupts, n int, want api.Rupts, code api.Errno) {
	t.Helper()
	got, e := Request(s, n)
	check(t, e, code, "error of Request", s, n)
	check(t, got, want, "Request", s, n)
}

// checkChoose compares the results of Choose.
func checkChoose(t *testing.T, s api.Rupts, r api.Regs, want int) {
	t.Helper()
	n, ok := Choose(s, r)
	check(t, n, want, "Choose", s, r)
	check(t, ok, want != 0, "the bool of Choose", s, r)
}

// entered is what Enter returns.
type entered struct {
	r     api.Regs
	s     api.Rupts
	cells []api.Cell
	n     int
	e     api.Errno
}

// checkEnter compares the results of Enter.
func checkEnter(t *testing.T, r api.Regs, s api.Rupts, next api.Word, want entered) {
	t.Helper()
	var got entered
	got.r, got.s, got.cells, got.n, got.e = Enter(r, s, next)
	check(t, got.e, want.e, "error of Enter", r, s, next)
	check(t, got.r, want.r, "registers of Enter", r, s, next)
	check(t, got.s, want.s, "pending interrupts of Enter", r, s, next)
	check(t, got.n, want.n, "number of Enter", r, s, next)
	if !slices.Equal(got.cells, want.cells) {
		t.Fatalf("cells of Enter of %v, %v, %v = %v, want %v", r, s, next, got.cells, want.cells)
	}
}

// saved returns the cells that an interrupt writes.
func saved(z, b api.Word) []api.Cell {
	return []api.Cell{{At: 13, W: z}, {At: 15, W: b}}
}

// keeping returns erasable memory with what an interrupt wrote.
func keeping(z, b api.Word) []api.Word {
	return []api.Word{13: z, 15: b}
}

// TestExamples tests the rows of the chapter's section Examples.
func TestExamples(t *testing.T) {
	checkRequest(t, rupts(), 3, api.Rupts{Pending: 8}, api.OK)
	checkRequest(t, api.Rupts{Pending: 8}, 3, api.Rupts{Pending: 8}, api.OK)
	checkRequest(t, rupts(), 0, rupts(), api.ErrRange)
	checkRequest(t, rupts(), 11, rupts(), api.ErrRange)
	checkChoose(t, rupts(2, 5), api.Regs{}, 2)
	checkChoose(t, rupts(2, 5), api.Regs{Inhibit: true}, 0)
	checkChoose(t, rupts(2, 5), api.Regs{A: 16384}, 0)
	checkChoose(t, rupts(2, 5), api.Regs{Index: 1}, 0)
	checkEnter(t, api.Regs{Z: 3000, A: 7}, rupts(2, 5), 12388, entered{
		r:     api.Regs{Z: 2056, A: 7, Serving: true},
		s:     rupts(5),
		cells: saved(3000, 12388),
		n:     2,
	})
	check(t, Leave(api.Regs{Z: 2060, Serving: true}, keeping(3000, 12388)),
		api.Regs{Z: 3000, B: 12388, Held: true}, "Leave")
}

// outside holds numbers that no interrupt has.
func outside() []int {
	l := []int{math.MinInt, math.MaxInt, 1<<32 + 3, 1<<16 + 3, 1<<8 + 3, 64 + 3}
	for n := -70; n <= 0; n++ {
		l = append(l, n)
	}
	for n := 11; n <= 70; n++ {
		l = append(l, n)
	}
	return l
}

// TestRequest tests P7.1: all interrupts with all bits of Pending.
func TestRequest(t *testing.T) {
	for p := range 1 << 16 {
		s := api.Rupts{Pending: uint16(p)}
		kept := p % 2048 / 2 * 2
		for n := 1; n <= 10; n++ {
			waits := p>>n%2 == 1
			want := kept
			if !waits {
				want += 1 << n
			}
			checkRequest(t, s, n, api.Rupts{Pending: uint16(want)}, api.OK)
			check(t, Waits(s, n), waits, "Waits", s, n)
		}
	}
}

// TestNoInterrupt tests P7.1: numbers that no interrupt has, also those of the other bits of Pending.
func TestNoInterrupt(t *testing.T) {
	for _, n := range outside() {
		for _, s := range []api.Rupts{{}, {Pending: 2046}, {Pending: 63489}, {Pending: 65535}} {
			checkRequest(t, s, n, api.Rupts{}, api.ErrRange)
			check(t, Waits(s, n), false, "Waits", s, n)
		}
	}
}

// conditions returns registers, each with one condition that bars interrupts.
func conditions() []api.Regs {
	return []api.Regs{
		{Inhibit: true},
		{Serving: true},
		{Extended: true},
		{Held: true},
		{Index: 1},
		{Index: 32767},
		{A: 16384},
		{A: 49151},
	}
}

// with returns the conditions of both registers.
func with(x, y api.Regs) api.Regs {
	x.Inhibit = x.Inhibit || y.Inhibit
	x.Serving = x.Serving || y.Serving
	x.Extended = x.Extended || y.Extended
	x.Held = x.Held || y.Held
	if x.Index == 0 {
		x.Index = y.Index
	}
	if x.A == 0 {
		x.A = y.A
	}
	return x
}

// invalid returns registers that are not valid, each in one way of chapter 5, which bars no interrupt.
func invalid() []api.Regs {
	return []api.Regs{
		{L: 32768},
		{L: 65535},
		{Q: 32768},
		{Q: 65535},
		{B: 32768},
		{B: 65535},
		{Index: 32768},
		{Z: -1},
		{Z: 4096},
		{Z: math.MinInt},
		{Z: math.MaxInt},
		{Z: 1<<32 + 2048},
		{EB: -1},
		{EB: 8},
		{EB: 1 << 32},
		{FB: -1},
		{FB: 32},
		{FB: 1 << 32},
		{Super: -1},
		{Super: 8},
		{Super: 1 << 32},
	}
}

// TestAllowed tests P7.2: each condition alone, and together with each other one.
func TestAllowed(t *testing.T) {
	check(t, Allowed(api.Regs{}), true, "Allowed of zero registers")
	for _, x := range conditions() {
		check(t, Allowed(x), false, "Allowed", x)
		for _, y := range conditions() {
			check(t, Allowed(with(x, y)), false, "Allowed", with(x, y))
		}
		for _, y := range invalid() {
			y.Index = 0
			check(t, Allowed(with(y, x)), false, "Allowed", with(y, x))
		}
	}
	all := api.Regs{Inhibit: true, Serving: true, Extended: true, Held: true, Index: 5, A: 32767}
	check(t, Allowed(all), false, "Allowed", all)
}

// TestAllowedIgnores tests P7.2: the fields and the faults that bar no interrupt.
func TestAllowedIgnores(t *testing.T) {
	for _, x := range append(invalid(),
		api.Regs{L: 32767, Q: 32767, B: 32767, Z: 4095, EB: 7, FB: 31, Super: 7},
		api.Regs{L: 65535, Q: 65535, B: 65535, Z: -5, EB: -5, FB: -5, Super: -5},
	) {
		check(t, Allowed(x), true, "Allowed", x)
		checkChoose(t, rupts(3, 4), x, 3)
	}
}

// TestAllowedWords tests P7.2: all accumulators and all indices, of which the highest bit does not count.
func TestAllowedWords(t *testing.T) {
	for n := range 1 << 16 {
		sameSigns := n/32768 == n/16384%2
		check(t, Allowed(api.Regs{A: api.Acc(n)}), sameSigns, "Allowed of A", n)
		check(t, Allowed(api.Regs{Index: api.Word(n)}), n%32768 == 0, "Allowed of Index", n)
	}
}

// least returns the least interrupt of Pending, 0 if there is none.
func least(p int) int {
	for n := 1; n <= 10; n++ {
		if p>>n%2 == 1 {
			return n
		}
	}
	return 0
}

// TestChoose tests P7.2: all bits of Pending, with and without a condition that bars interrupts.
func TestChoose(t *testing.T) {
	for p := range 1 << 16 {
		s := api.Rupts{Pending: uint16(p)}
		checkChoose(t, s, api.Regs{A: 65535, Z: 5}, least(p))
		checkChoose(t, s, conditions()[p%8], 0)
	}
	for _, x := range conditions() {
		checkChoose(t, rupts(1, 10), x, 0)
	}
}

// TestEnter tests P7.3: all bits of Pending, and the registers that stay.
func TestEnter(t *testing.T) {
	for p := range 1 << 16 {
		s := api.Rupts{Pending: uint16(p)}
		r := api.Regs{A: 16383, L: 1, Q: 2, Z: p % 4096, EB: 3, FB: 4, Super: 5, B: 6}
		n := least(p)
		if n == 0 {
			checkEnter(t, r, s, 7, entered{e: api.ErrState})
			continue
		}
		checkEnter(t, r, s, 7, entered{
			r:     api.Regs{A: 16383, L: 1, Q: 2, Z: 2048 + 4*n, EB: 3, FB: 4, Super: 5, B: 6, Serving: true},
			s:     api.Rupts{Pending: uint16(p%2048/2*2 - 1<<n)},
			cells: saved(api.Word(p%4096), 7),
			n:     n,
		})
	}
}

// TestEnterEach tests P7.3: the first and the last interrupt, with words at the ends of the registers and next words above MaxWord.
func TestEnterEach(t *testing.T) {
	r := api.Regs{A: 49152, L: 32767, Q: 32767, Z: 4095, EB: 7, FB: 31, Super: 7, B: 32767}
	after := r
	after.Z, after.Serving = 2052, true
	checkEnter(t, r, rupts(1), 65535, entered{r: after, cells: saved(4095, 32767), n: 1})
	after.Z = 2088
	checkEnter(t, r, rupts(10), 32768, entered{r: after, cells: saved(4095, 0), n: 10})
	r.Z = 0
	checkEnter(t, r, rupts(10), 32767, entered{r: after, cells: saved(0, 32767), n: 10})
	for next := range 1 << 16 {
		_, _, cells, _, _ := Enter(api.Regs{}, rupts(6), api.Word(next))
		check(t, cells[1], api.Cell{At: 15, W: api.Word(next % 32768)}, "cell of Enter", next)
	}
}

// TestEnterErrors tests P7.3: registers that are not valid, before everything that bars an interrupt; and then each of those.
func TestEnterErrors(t *testing.T) {
	for _, x := range invalid() {
		checkEnter(t, x, rupts(2), 1, entered{e: api.ErrArg})
		checkEnter(t, x, rupts(), 1, entered{e: api.ErrArg})
		x.Inhibit = true
		checkEnter(t, x, rupts(2), 1, entered{e: api.ErrArg})
	}
	for _, x := range conditions() {
		checkEnter(t, x, rupts(2), 1, entered{e: api.ErrState})
		checkEnter(t, x, rupts(), 1, entered{e: api.ErrState})
	}
	checkEnter(t, api.Regs{}, rupts(), 1, entered{e: api.ErrState})
	checkEnter(t, api.Regs{}, rupts(0, 11, 12, 13, 14, 15), 1, entered{e: api.ErrState})
}

// TestEnterNew tests rule 5: the cells of two calls share no memory.
func TestEnterNew(t *testing.T) {
	_, _, first, _, _ := Enter(api.Regs{Z: 8}, rupts(2), 9)
	_, _, second, _, _ := Enter(api.Regs{Z: 8}, rupts(2), 9)
	first[0].W, first[1].At = 100, 100
	if !slices.Equal(second, saved(8, 9)) {
		t.Fatalf("cells of Enter = %v after a change of those of another call", second)
	}
}

// TestLeave tests P7.4: all words at the addresses 13 and 15, with every register set.
func TestLeave(t *testing.T) {
	r := api.Regs{A: 16384, L: 1, Q: 2, Z: 3, EB: 4, FB: 5, Super: 6, Index: 7, B: 8,
		Extended: true, Inhibit: true, Serving: true}
	want := r
	want.Held, want.Serving = true, false
	for n := range 1 << 16 {
		want.Z, want.B = n%4096, 100
		check(t, Leave(r, keeping(api.Word(n), 100)), want, "Leave of the word at 13", n)
		want.Z, want.B = 200, api.Word(n%32768)
		check(t, Leave(r, keeping(200, api.Word(n))), want, "Leave of the word at 15", n)
	}
}

// TestLeaveRegisters tests P7.4: registers without flags, already held, and not valid, which stay as they are but for those that an interrupt changed.
func TestLeaveRegisters(t *testing.T) {
	for _, r := range append(invalid(), append(conditions(), api.Regs{})...) {
		want := r
		want.Z, want.B, want.Held, want.Serving = 4095, 32767, true, false
		check(t, Leave(r, keeping(4095, 32767)), want, "Leave", r)
	}
}

// TestLeaveShort tests P7.4: erasable words that end before the cells, between them and after them.
func TestLeaveShort(t *testing.T) {
	all := make([]api.Word, 20)
	for i := range all {
		all[i] = api.Word(100 + i)
	}
	for n := range len(all) + 1 {
		want := api.Regs{Held: true}
		if n > 13 {
			want.Z = 113
		}
		if n > 15 {
			want.B = 115
		}
		check(t, Leave(api.Regs{Z: 5, B: 6, Serving: true}, all[:n:n]), want, "Leave of so many words:", n)
		check(t, Leave(api.Regs{}, all[:n]), want, "Leave of so many words, with more capacity:", n)
	}
	check(t, Leave(api.Regs{Z: 5, B: 6}, nil), api.Regs{Held: true}, "Leave of no words")
	for i, w := range all {
		check(t, w, api.Word(100+i), "the word passed to Leave", i)
	}
}
