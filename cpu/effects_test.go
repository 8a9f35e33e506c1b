package cpu

import (
	"slices"
	"testing"

	"perilune/api"
	"perilune/isa"
)

// effect is an instruction at fixed address 2048 with its effect. Where it is 0, Z stands for 2048 before, and for 2049 afterwards.
type effect struct {
	name   string
	k      int
	before api.Regs
	memory words // erasable memory
	after  api.Regs
	cells  []api.Cell
	reads  []api.Spot // beside the instruction's own word
}

// cells returns cells of pairs of an address and a word.
func cells(l ...int) []api.Cell {
	var out []api.Cell
	for p := range slices.Chunk(l, 2) {
		out = append(out, api.Cell{At: p[0], W: api.Word(p[1])})
	}
	return out
}

// from returns words of erasable memory.
func from(l ...int) []api.Spot {
	var out []api.Spot
	for _, at := range l {
		out = append(out, erasable(at))
	}
	return out
}

// constants are the words of fixed memory beside the instruction.
var constants = words{0: 77, 1023: 11, 1024: 12, 2047: 13, 3000: 7, 3001: 32765, 3071: 14, 3072: 15, 4095: 16, 4096: 17, 36863: 18}

// channels are the words of the channels in the tests.
var channels = words{0: 9, 1: 9, 2: 9, 3: 5, 7: 9, 8: 32766, 10: 65535, 511: 12}

// check runs the instruction.
func (x effect) check(t *testing.T) {
	t.Helper()
	x.checkOuts(t, nil)
}

func (x effect) checkOuts(t *testing.T, outs []api.Cell) {
	t.Helper()
	op, e := isa.Find(x.name)
	check(t, e, api.OK, "Find", x.name)
	r, after := x.before, x.after
	if r.Z == 0 {
		r.Z = 2048
	}
	if after.Z == 0 {
		after.Z = 2049
	}
	r.Extended = op.Extended
	v := view(x.memory, constants, channels)
	v.Fixed[r.Z] = code(t, x.name, x.k)
	want := api.Done{
		Cells:  x.cells,
		Outs:   outs,
		Reads:  append([]api.Spot{fixed(r.Z)}, x.reads...),
		Cycles: op.Cycles,
		Op:     op.Code,
	}
	if op.Kind == api.KindFixed && after.Z == x.k {
		want.Cycles = 1
	}
	got, d, e := Step(r, v)
	if got != after || !sameDone(d, want) || e != api.OK {
		t.Errorf("%s %d in %+v with %v:\n%+v, %+v, %v, want\n%+v, %+v", x.name, x.k, x.before, x.memory, got, d, e, after, want)
	}
}

func checkAll(t *testing.T, l []effect) {
	t.Helper()
	for _, x := range l {
		x.check(t)
	}
}

// TestExamples tests the rows of the chapter's section Examples that concern Step; the others are in TestMultiply and TestDivide.
func TestExamples(t *testing.T) {
	v := view(words{100: 7}, words{2048: 12388}, nil)
	r, d, e := Step(api.Regs{A: 5, Z: 2048}, v)
	check(t, r, api.Regs{A: 7, Z: 2049}, "Step of CA 100")
	check(t, e, api.OK, "error of CA 100")
	if want := (api.Done{Reads: []api.Spot{fixed(2048), erasable(100)}, Cycles: 2, Op: 11}); !sameDone(d, want) {
		t.Errorf("effect of CA 100: %+v, want %+v", d, want)
	}

	v = view(words{100: 1}, words{2048: 24676, 2049: 22629}, nil)
	r, _, _ = Step(api.Regs{A: 16383, Z: 2048}, v)
	check(t, r, api.Regs{A: 16384, Z: 2049}, "Step of AD 100")
	r, d, _ = Step(r, v)
	check(t, r, api.Regs{A: 1, Z: 2051}, "Step of TS 101")
	if want := (api.Done{Cells: cells(101, 0), Reads: []api.Spot{fixed(2049)}, Cycles: 2, Op: 16}); !sameDone(d, want) {
		t.Errorf("effect of TS 101: %+v, want %+v", d, want)
	}

	r, _, _ = Step(api.Regs{Z: 2048}, view(words{100: 32767}, words{2048: 4196}, nil))
	check(t, r, api.Regs{A: 0, Z: 2052}, "Step of CCS 100")

	r, d, _ = Step(api.Regs{A: 3, Z: 2048}, view(nil, words{2048: 3000}, nil))
	check(t, r, api.Regs{A: 3, Q: 2049, Z: 3000}, "Step of TC 3000")
	check(t, d.Cycles, 1, "Cycles of TC 3000")

	v = view(nil, words{3000: 2}, nil)
	r, _, _ = Step(api.Regs{Q: 2049, Z: 3000}, v)
	check(t, r, api.Regs{Q: 3001, Z: 2, Held: true, B: 2049}, "Step of TC 2")
	r, d, _ = Step(r, v)
	check(t, r, api.Regs{Q: 3, Z: 2049}, "Step after TC 2")
	check(t, len(d.Reads), 0, "words read after TC 2")
}

// TestControl tests P5.3: TC and TCF, and the flags; Z wraps around.
func TestControl(t *testing.T) {
	checkAll(t, []effect{
		{"TC", 3000, api.Regs{A: 3, L: 4, Q: 5}, nil, api.Regs{A: 3, L: 4, Q: 2049, Z: 3000}, nil, nil},
		{"TC", 2, api.Regs{Q: 5}, nil, api.Regs{Q: 2049, Z: 2, Held: true, B: 5}, nil, nil},
		{"TC", 2, api.Regs{Q: 32767}, nil, api.Regs{Q: 2049, Z: 2, Held: true, B: 32767}, nil, nil},
		{"TC", 1, api.Regs{Q: 5}, nil, api.Regs{Q: 2049, Z: 1}, nil, nil},
		{"TC", 5, api.Regs{Q: 5}, nil, api.Regs{Q: 2049, Z: 5}, nil, nil},
		{"TC", 7, api.Regs{Q: 5}, nil, api.Regs{Q: 2049, Z: 7}, nil, nil},
		{"TC", 770, api.Regs{Q: 5}, nil, api.Regs{Q: 2049, Z: 770}, nil, nil}, // addresses Q in bank 0, but is not 2
		{"TC", 4095, api.Regs{}, nil, api.Regs{Q: 2049, Z: 4095}, nil, nil},
		{"TC", 3000, api.Regs{Z: 4095}, nil, api.Regs{Q: 0, Z: 3000}, nil, nil},
		{"TCF", 1024, api.Regs{Q: 5}, nil, api.Regs{Q: 5, Z: 1024}, nil, nil},
		{"TCF", 4095, api.Regs{Q: 5}, nil, api.Regs{Q: 5, Z: 4095}, nil, nil},
		{"EXTEND", 0, api.Regs{A: 1}, nil, api.Regs{A: 1, Extended: true}, nil, nil},
		{"INHINT", 0, api.Regs{Serving: true}, nil, api.Regs{Inhibit: true, Serving: true}, nil, nil},
		{"INHINT", 0, api.Regs{Inhibit: true}, nil, api.Regs{Inhibit: true}, nil, nil},
		{"RELINT", 0, api.Regs{Inhibit: true, Serving: true}, nil, api.Regs{Serving: true}, nil, nil},
		{"RELINT", 0, api.Regs{}, nil, api.Regs{}, nil, nil},
	})
	r, _, _ := Step(api.Regs{Z: 4095}, view(nil, words{4095: 0}, nil))
	check(t, r, api.Regs{Q: 0, Z: 0}, "Step of TC 0 at 4095")
	r, _, _ = Step(api.Regs{Z: 4095}, view(nil, words{4095: 3}, nil))
	check(t, r, api.Regs{Z: 0}, "Step of RELINT at 4095")
	r, _, _ = Step(api.Regs{Z: 4095, Held: true, B: 6, Index: 32767}, api.View{})
	check(t, r, api.Regs{Z: 0, Extended: true}, "Step of a held EXTEND at 4095")
	r, _, _ = Step(api.Regs{Q: 4, Z: 4095, Held: true, B: 2}, api.View{})
	check(t, r, api.Regs{Q: 0, Z: 2, Held: true, B: 4}, "Step of a held TC 2 at 4095")
}

// TestResume tests P5.3: RESUME masks the address, and reads words beyond the view as 0.
func TestResume(t *testing.T) {
	r := api.Regs{A: 40000, L: 1, Q: 2, EB: 3, FB: 4, Super: 5, Inhibit: true, Serving: true}
	after := r
	after.Serving, after.Held = false, true
	for _, x := range [][4]api.Word{{3000, 12388, 3000, 12388}, {4095, 32767, 4095, 32767}, {4097, 16384, 1, 16384}, {32767, 0, 4095, 0}, {65535, 65535, 4095, 32767}, {24576 + 5, 32768 + 6, 5, 6}} {
		after.Z, after.B = int(x[2]), x[3]
		effect{"RESUME", 0, r, words{13: x[0], 15: x[1]}, after, nil, from(13, 15)}.check(t)
	}
	got, _, _ := Step(api.Regs{Z: 2048, Serving: true}, view(words{13: 4096}, words{2048: 20495}, nil))
	check(t, got, api.Regs{Held: true}, "Step of RESUME with 4096 in a short view")
}

// TestCount tests P5.3: CCS, whose four cases skip, and whose accumulator may have an overflow.
func TestCount(t *testing.T) {
	checkAll(t, []effect{
		{"CCS", 100, api.Regs{A: 9}, words{100: 7}, api.Regs{A: 6, Z: 2049}, nil, from(100)},
		{"CCS", 100, api.Regs{A: 9}, words{100: 1}, api.Regs{A: 0, Z: 2049}, nil, from(100)},
		{"CCS", 100, api.Regs{A: 9}, words{100: 16383}, api.Regs{A: 16382, Z: 2049}, nil, from(100)},
		{"CCS", 100, api.Regs{A: 9}, words{100: 0}, api.Regs{A: 0, Z: 2050}, nil, from(100)},
		{"CCS", 100, api.Regs{A: 9}, words{100: 32766}, api.Regs{A: 0, Z: 2051}, nil, from(100)},
		{"CCS", 100, api.Regs{A: 9}, words{100: 16384}, api.Regs{A: 16382, Z: 2051}, nil, from(100)},
		{"CCS", 100, api.Regs{A: 9}, words{100: 32767}, api.Regs{A: 0, Z: 2052}, nil, from(100)},
		{"CCS", 0, api.Regs{A: 16384}, nil, api.Regs{A: 16383, Z: 2049}, nil, nil},
		{"CCS", 0, api.Regs{A: 32767}, nil, api.Regs{A: 32766, Z: 2049}, nil, nil},
		{"CCS", 0, api.Regs{A: 32768}, nil, api.Regs{A: 32766, Z: 2051}, nil, nil},
		{"CCS", 0, api.Regs{A: 65535}, nil, api.Regs{A: 0, Z: 2052}, nil, nil},
		{"CCS", 1, api.Regs{L: 32766}, nil, api.Regs{L: 32766, Z: 2051}, nil, nil},
		{"CCS", 5, api.Regs{}, nil, api.Regs{A: 2048, Z: 2049}, nil, nil},
		{"CCS", 7, api.Regs{A: 5}, words{7: 9}, api.Regs{Z: 2050}, nil, nil},
		{"CCS", 16, api.Regs{}, words{16: 5}, api.Regs{A: 4, Z: 2049}, nil, from(16)}, // no editing without a write
		{"CCS", 100, api.Regs{Z: 4094}, words{100: 32767}, api.Regs{Z: 2}, nil, from(100)},
		{"CCS", 768, api.Regs{EB: 7}, words{1792: 3}, api.Regs{A: 2, EB: 7, Z: 2049}, nil, from(1792)},
	})
}

// TestDoubleAdd tests P5.3: DAS, its carries in both directions, its registers and the word after the last one.
func TestDoubleAdd(t *testing.T) {
	checkAll(t, []effect{
		{"DAS", 100, api.Regs{A: 3, L: 4}, words{100: 1, 101: 2}, api.Regs{}, cells(101, 6, 100, 4), from(101, 100)},
		{"DAS", 100, api.Regs{A: 3, L: 1}, words{100: 1, 101: 16383}, api.Regs{}, cells(101, 0, 100, 5), from(101, 100)},
		{"DAS", 100, api.Regs{A: 3, L: 32766}, words{100: 1, 101: 16384}, api.Regs{}, cells(101, 32767, 100, 3), from(101, 100)},
		{"DAS", 100, api.Regs{A: 1}, words{100: 16383}, api.Regs{A: 1}, cells(101, 0, 100, 0), from(101, 100)},
		{"DAS", 100, api.Regs{L: 1}, words{100: 16383, 101: 16383}, api.Regs{A: 1}, cells(101, 0, 100, 0), from(101, 100)},
		{"DAS", 100, api.Regs{A: 65534}, words{100: 16384}, api.Regs{A: 65534}, cells(101, 0, 100, 32767), from(101, 100)},
		{"DAS", 100, api.Regs{L: 32766}, words{100: 16384, 101: 16384}, api.Regs{A: 65534}, cells(101, 32767, 100, 32767), from(101, 100)},
		{"DAS", 100, api.Regs{A: 65535, L: 32767}, words{100: 32767, 101: 32767}, api.Regs{}, cells(101, 32767, 100, 32767), from(101, 100)},
		{"DAS", 0, api.Regs{A: 5, L: 6, Q: 7}, nil, api.Regs{A: 10, L: 12, Q: 7}, nil, nil},
		{"DAS", 0, api.Regs{A: 5, L: 16383}, nil, api.Regs{A: 11, L: 16382}, nil, nil},
		{"DAS", 0, api.Regs{A: 5, L: 16384}, nil, api.Regs{A: 9, L: 16385}, nil, nil},
		{"DAS", 0, api.Regs{A: 16383}, nil, api.Regs{A: 32766}, nil, nil}, // the overflow stays
		{"DAS", 768, api.Regs{A: 5, L: 6}, nil, api.Regs{A: 10, L: 12}, nil, nil},
		{"DAS", 1, api.Regs{A: 1, L: 2, Q: 3}, nil, api.Regs{Q: 5}, nil, nil},
		{"DAS", 1, api.Regs{A: 16383, L: 2, Q: 3}, nil, api.Regs{A: 1, Q: 5}, nil, nil},
		{"DAS", 2, api.Regs{A: 1, L: 256, Q: 3, EB: 5}, nil, api.Regs{Q: 4, EB: 6}, nil, nil},
		{"DAS", 5, api.Regs{A: 10, L: 1024 + 1, FB: 2, EB: 1}, nil, api.Regs{Z: 2059, FB: 3, EB: 2}, nil, nil},
		{"DAS", 6, api.Regs{A: 1025, L: 5, FB: 2, EB: 1}, nil, api.Regs{FB: 3, EB: 2}, nil, nil},
		{"DAS", 7, api.Regs{A: 1, L: 5}, words{7: 9, 8: 3}, api.Regs{}, cells(8, 8), from(8)},
		{"DAS", 8, api.Regs{A: 1, L: 5}, words{8: 3, 9: 4}, api.Regs{}, cells(9, 9, 8, 4), from(9, 8)},
		{"DAS", 15, api.Regs{A: 1, L: 5}, nil, api.Regs{}, cells(16, 16386, 15, 1), from(16, 15)},
		{"DAS", 17, api.Regs{A: 5, L: 16385}, nil, api.Regs{}, cells(18, 3, 17, 2), from(18, 17)},
		{"DAS", 767, api.Regs{A: 1, L: 5, EB: 6}, words{767: 1, 768: 2}, api.Regs{EB: 6}, cells(768, 7, 767, 2), from(768, 767)},
		{"DAS", 1023, api.Regs{A: 1, L: 5, EB: 3}, words{1023: 1, 1024: 2}, api.Regs{EB: 3}, cells(1024, 7, 1023, 2), from(1024, 1023)},
		{"DAS", 1023, api.Regs{A: 3, L: 5, EB: 7}, words{0: 99, 2047: 1}, api.Regs{EB: 7}, cells(2047, 4), from(2047)},
		{"DAS", 1023, api.Regs{A: 16383, L: 5, EB: 7}, words{2047: 1}, api.Regs{A: 1, EB: 7}, cells(2047, 1), from(2047)},
		{"DAS", 770, api.Regs{A: 1, L: 512, Q: 3}, nil, api.Regs{Q: 4, EB: 2}, nil, nil}, // the bank changes before Q is written
	})
}

// TestExchange tests P5.3: LXCH, QXCH, XCH and DXCH.
func TestExchange(t *testing.T) {
	checkAll(t, []effect{
		{"LXCH", 100, api.Regs{A: 1, L: 2, Q: 3}, words{100: 4}, api.Regs{A: 1, L: 4, Q: 3}, cells(100, 2), from(100)},
		{"LXCH", 0, api.Regs{A: 1, L: 32766}, nil, api.Regs{A: 65534, L: 1}, nil, nil},
		{"LXCH", 0, api.Regs{A: 16385, L: 2}, nil, api.Regs{A: 2, L: 1}, nil, nil}, // corrected
		{"LXCH", 0, api.Regs{A: 49151, L: 2}, nil, api.Regs{A: 2, L: 32767}, nil, nil},
		{"LXCH", 1, api.Regs{L: 2}, nil, api.Regs{L: 2}, nil, nil},
		{"LXCH", 2, api.Regs{L: 2, Q: 3}, nil, api.Regs{L: 3, Q: 2}, nil, nil},
		{"LXCH", 3, api.Regs{L: 32767, EB: 2}, nil, api.Regs{L: 512, EB: 7}, nil, nil},
		{"LXCH", 3, api.Regs{L: 32767 - 1792, EB: 2}, nil, api.Regs{L: 512, EB: 0}, nil, nil},
		{"LXCH", 4, api.Regs{L: 32767 - 1024, FB: 31}, nil, api.Regs{L: 31744, FB: 30}, nil, nil},
		{"LXCH", 5, api.Regs{L: 28672 + 3000}, nil, api.Regs{L: 2049, Z: 3000}, nil, nil},
		{"LXCH", 6, api.Regs{L: 18 * 1024, EB: 5, FB: 3}, nil, api.Regs{L: 3*1024 + 5, FB: 18}, nil, nil},
		{"LXCH", 6, api.Regs{L: 1023}, nil, api.Regs{EB: 7}, nil, nil},
		{"LXCH", 7, api.Regs{L: 5}, words{7: 9}, api.Regs{}, nil, nil},
		{"LXCH", 16, api.Regs{L: 5}, words{16: 9}, api.Regs{L: 9}, cells(16, 16386), from(16)},
		{"LXCH", 100, api.Regs{L: 32767}, words{100: 65535}, api.Regs{L: 32767}, cells(100, 32767), from(100)},
		{"QXCH", 100, api.Regs{A: 1, L: 2, Q: 3}, words{100: 4}, api.Regs{A: 1, L: 2, Q: 4}, cells(100, 3), from(100)},
		{"QXCH", 0, api.Regs{A: 49151, Q: 32766}, nil, api.Regs{A: 65534, Q: 32767}, nil, nil},
		{"QXCH", 1, api.Regs{L: 2, Q: 3}, nil, api.Regs{L: 3, Q: 2}, nil, nil},
		{"QXCH", 2, api.Regs{L: 2, Q: 3}, nil, api.Regs{L: 2, Q: 3}, nil, nil},
		{"QXCH", 5, api.Regs{Q: 3000}, nil, api.Regs{Q: 2049, Z: 3000}, nil, nil},
		{"QXCH", 7, api.Regs{Q: 3000}, nil, api.Regs{}, nil, nil},
		{"QXCH", 18, api.Regs{Q: 16385}, words{18: 1}, api.Regs{Q: 1}, cells(18, 3), from(18)},
		{"XCH", 100, api.Regs{A: 1}, words{100: 4}, api.Regs{A: 4}, cells(100, 1), from(100)},
		{"XCH", 100, api.Regs{A: 16385}, words{100: 32766}, api.Regs{A: 65534}, cells(100, 1), from(100)},
		{"XCH", 0, api.Regs{A: 16385}, nil, api.Regs{A: 16385}, nil, nil},
		{"XCH", 1, api.Regs{A: 49151, L: 32766}, nil, api.Regs{A: 65534, L: 32767}, nil, nil},
		{"XCH", 5, api.Regs{A: 3000}, nil, api.Regs{A: 2049, Z: 3000}, nil, nil},
		{"XCH", 7, api.Regs{A: 3000}, nil, api.Regs{}, nil, nil},
		{"XCH", 19, api.Regs{A: 16256}, words{19: 3}, api.Regs{A: 3}, cells(19, 127), from(19)},
		{"DXCH", 100, api.Regs{A: 1, L: 2}, words{100: 3, 101: 4}, api.Regs{A: 3, L: 4}, cells(101, 2, 100, 1), from(101, 100)},
		{"DXCH", 100, api.Regs{A: 49151, L: 32766}, words{100: 32766, 101: 32765}, api.Regs{A: 65534, L: 32765}, cells(101, 32766, 100, 32767), from(101, 100)},
		{"DXCH", 0, api.Regs{A: 16385, L: 2}, nil, api.Regs{A: 16385, L: 2}, nil, nil},
		{"DXCH", 1, api.Regs{A: 1, L: 2, Q: 3}, nil, api.Regs{A: 3, L: 1, Q: 2}, nil, nil},
		{"DXCH", 2, api.Regs{A: 1, L: 256 * 5, Q: 3, EB: 4}, nil, api.Regs{A: 3, L: 1024, Q: 1, EB: 5}, nil, nil},
		{"DXCH", 3, api.Regs{A: 256 * 5, L: 1024 * 6, EB: 1, FB: 2}, nil, api.Regs{A: 256, L: 2048, EB: 5, FB: 6}, nil, nil},
		{"DXCH", 4, api.Regs{A: 1024 * 7, L: 3000, FB: 2}, nil, api.Regs{A: 2048, L: 2049, FB: 7, Z: 3000}, nil, nil},
		{"DXCH", 5, api.Regs{A: 3000, L: 1024*7 + 2, FB: 3, EB: 4}, nil, api.Regs{A: 2049, L: 3*1024 + 4, FB: 7, EB: 2, Z: 3000}, nil, nil},
		{"DXCH", 6, api.Regs{A: 1024*7 + 2, L: 5, FB: 3, EB: 4}, nil, api.Regs{A: 3*1024 + 4, FB: 7, EB: 2}, nil, nil},
		{"DXCH", 7, api.Regs{A: 1, L: 2}, words{8: 3}, api.Regs{L: 3}, cells(8, 2), from(8)},
		{"DXCH", 15, api.Regs{A: 1, L: 5}, words{15: 3, 16: 4}, api.Regs{A: 3, L: 4}, cells(16, 16386, 15, 1), from(16, 15)},
		{"DXCH", 1023, api.Regs{A: 1, L: 2, EB: 7}, words{0: 99, 2047: 3}, api.Regs{A: 3, L: 1, EB: 7}, cells(2047, 2), from(2047)},
		{"DXCH", 1023, api.Regs{A: 16385, L: 32766, EB: 7}, words{2047: 3}, api.Regs{A: 3, L: 1, EB: 7}, cells(2047, 32766), from(2047)},
		{"DXCH", 770, api.Regs{A: 1, L: 256 * 5, Q: 3}, nil, api.Regs{A: 3, Q: 1, EB: 5}, nil, nil}, // the bank changes before Q is written
	})
}

// TestStore tests P5.3: TS, which skips after an overflow, but not because of one in the word.
func TestStore(t *testing.T) {
	checkAll(t, []effect{
		{"TS", 101, api.Regs{A: 5}, words{101: 9}, api.Regs{A: 5}, cells(101, 5), nil},
		{"TS", 101, api.Regs{A: 65534}, nil, api.Regs{A: 65534}, cells(101, 32766), nil},
		{"TS", 101, api.Regs{A: 65535}, nil, api.Regs{A: 65535}, cells(101, 32767), nil},
		{"TS", 101, api.Regs{A: 16384}, nil, api.Regs{A: 1, Z: 2050}, cells(101, 0), nil},
		{"TS", 101, api.Regs{A: 32767}, nil, api.Regs{A: 1, Z: 2050}, cells(101, 16383), nil},
		{"TS", 101, api.Regs{A: 49151}, nil, api.Regs{A: 65534, Z: 2050}, cells(101, 32767), nil},
		{"TS", 101, api.Regs{A: 32768}, nil, api.Regs{A: 65534, Z: 2050}, cells(101, 16384), nil},
		{"TS", 101, api.Regs{A: 16384, Z: 4095}, nil, api.Regs{A: 1, Z: 1}, cells(101, 0), nil},
		{"TS", 0, api.Regs{A: 5}, nil, api.Regs{A: 5}, nil, nil},
		{"TS", 0, api.Regs{A: 16384}, nil, api.Regs{A: 16384, Z: 2050}, nil, nil},
		{"TS", 0, api.Regs{A: 49151}, nil, api.Regs{A: 49151, Z: 2050}, nil, nil},
		{"TS", 768, api.Regs{A: 49151}, nil, api.Regs{A: 49151, Z: 2050}, nil, nil}, // address 0 as a word of bank 0
		{"TS", 1, api.Regs{A: 16385, L: 9}, nil, api.Regs{A: 1, L: 1, Z: 2050}, nil, nil},
		{"TS", 2, api.Regs{A: 65534}, nil, api.Regs{A: 65534, Q: 32766}, nil, nil},
		{"TS", 3, api.Regs{A: 65535, EB: 2}, nil, api.Regs{A: 65535, EB: 7}, nil, nil},
		{"TS", 3, api.Regs{A: 255, EB: 2}, nil, api.Regs{A: 255}, nil, nil},
		{"TS", 4, api.Regs{A: 65535, EB: 2}, nil, api.Regs{A: 65535, EB: 2, FB: 31}, nil, nil},
		{"TS", 4, api.Regs{A: 1023, EB: 2, FB: 3}, nil, api.Regs{A: 1023, EB: 2}, nil, nil},
		{"TS", 5, api.Regs{A: 3000}, nil, api.Regs{A: 3000, Z: 3000}, nil, nil},
		{"TS", 5, api.Regs{A: 16384 + 3000}, nil, api.Regs{A: 1, Z: 3001}, nil, nil},
		{"TS", 5, api.Regs{A: 8192 + 3000}, nil, api.Regs{A: 8192 + 3000, Z: 3000}, nil, nil},
		{"TS", 6, api.Regs{A: 65535, Super: 3}, nil, api.Regs{A: 65535, EB: 7, FB: 31, Super: 3}, nil, nil},
		{"TS", 6, api.Regs{A: 1016, EB: 2, FB: 3}, nil, api.Regs{A: 1016}, nil, nil},
		{"TS", 7, api.Regs{A: 5}, nil, api.Regs{A: 5}, nil, nil},
		{"TS", 7, api.Regs{A: 16384}, nil, api.Regs{A: 1, Z: 2050}, nil, nil},
		{"TS", 8, api.Regs{A: 5}, nil, api.Regs{A: 5}, cells(8, 5), nil},
		{"TS", 15, api.Regs{A: 5}, nil, api.Regs{A: 5}, cells(15, 5), nil},
		{"TS", 16, api.Regs{A: 5}, nil, api.Regs{A: 5}, cells(16, 16386), nil},
		{"TS", 17, api.Regs{A: 49152 + 2}, nil, api.Regs{A: 49152 + 2}, cells(17, 24577), nil},
		{"TS", 18, api.Regs{A: 49152 + 1}, nil, api.Regs{A: 49152 + 1}, cells(18, 3), nil},
		{"TS", 19, api.Regs{A: 65535}, nil, api.Regs{A: 65535}, cells(19, 127), nil},
		{"TS", 20, api.Regs{A: 5}, nil, api.Regs{A: 5}, cells(20, 5), nil},
		{"TS", 1023, api.Regs{A: 5, EB: 7}, nil, api.Regs{A: 5, EB: 7}, cells(2047, 5), nil},
		{"TS", 784, api.Regs{A: 5}, nil, api.Regs{A: 5}, cells(16, 16386), nil}, // address 16 as a word of bank 0
		{"TS", 784, api.Regs{A: 5, EB: 1}, nil, api.Regs{A: 5, EB: 1}, cells(272, 5), nil},
	})
}

// TestAdd tests P5.3: the additions and their overflows.
func TestAdd(t *testing.T) {
	checkAll(t, []effect{
		{"INCR", 100, api.Regs{A: 9}, words{100: 5}, api.Regs{A: 9}, cells(100, 6), from(100)},
		{"INCR", 100, api.Regs{}, words{100: 16383}, api.Regs{}, cells(100, 0), from(100)},
		{"INCR", 100, api.Regs{}, words{100: 32766}, api.Regs{}, cells(100, 32767), from(100)},
		{"INCR", 100, api.Regs{}, words{100: 32767}, api.Regs{}, cells(100, 1), from(100)},
		{"INCR", 0, api.Regs{A: 16383}, nil, api.Regs{A: 16384}, nil, nil},
		{"INCR", 0, api.Regs{A: 65535}, nil, api.Regs{A: 1}, nil, nil},
		{"INCR", 1, api.Regs{L: 16383}, nil, api.Regs{L: 0}, nil, nil},
		{"INCR", 5, api.Regs{}, nil, api.Regs{Z: 2050}, nil, nil},
		{"INCR", 7, api.Regs{}, nil, api.Regs{}, nil, nil},
		{"INCR", 16, api.Regs{}, words{16: 4}, api.Regs{}, cells(16, 16386), from(16)},
		{"ADS", 100, api.Regs{A: 3}, words{100: 5}, api.Regs{A: 8}, cells(100, 8), from(100)},
		{"ADS", 100, api.Regs{A: 1}, words{100: 16383}, api.Regs{A: 16384}, cells(100, 0), from(100)},
		{"ADS", 100, api.Regs{A: 65534}, words{100: 16384}, api.Regs{A: 49151}, cells(100, 32767), from(100)},
		{"ADS", 0, api.Regs{A: 16383}, nil, api.Regs{A: 32766}, nil, nil},
		{"ADS", 5, api.Regs{A: 5}, nil, api.Regs{A: 2054, Z: 2054}, nil, nil},
		{"ADS", 3, api.Regs{A: 256, EB: 6}, nil, api.Regs{A: 7 * 256, EB: 7}, nil, nil},
		{"ADS", 7, api.Regs{A: 5}, nil, api.Regs{A: 5}, nil, nil},
		{"ADS", 18, api.Regs{A: 49152}, words{18: 1}, api.Regs{A: 49153}, cells(18, 3), from(18)},
		{"AD", 100, api.Regs{A: 3}, words{100: 5}, api.Regs{A: 8}, nil, from(100)},
		{"AD", 100, api.Regs{A: 1}, words{100: 16383}, api.Regs{A: 16384}, nil, from(100)},
		{"AD", 100, api.Regs{A: 65534}, words{100: 16384}, api.Regs{A: 49151}, nil, from(100)},
		{"AD", 100, api.Regs{A: 5}, words{100: 32762}, api.Regs{A: 65535}, nil, from(100)}, // -0
		{"AD", 100, api.Regs{A: 0}, words{100: 32767}, api.Regs{A: 65535}, nil, from(100)},
		{"AD", 3000, api.Regs{A: 1}, nil, api.Regs{A: 8}, nil, []api.Spot{fixed(3000)}},
		{"AD", 3001, api.Regs{A: 1}, nil, api.Regs{A: 65534}, nil, []api.Spot{fixed(3001)}},
		{"AD", 0, api.Regs{A: 16383}, nil, api.Regs{A: 32766}, nil, nil},
		{"SU", 100, api.Regs{A: 8}, words{100: 5}, api.Regs{A: 3}, nil, from(100)},
		{"SU", 100, api.Regs{A: 5}, words{100: 5}, api.Regs{A: 65535}, nil, from(100)},
		{"SU", 100, api.Regs{A: 16383}, words{100: 32766}, api.Regs{A: 16384}, nil, from(100)},
		{"SU", 100, api.Regs{A: 49152}, words{100: 1}, api.Regs{A: 49151}, nil, from(100)},
		{"SU", 0, api.Regs{A: 16384}, nil, api.Regs{A: 65535}, nil, nil},
		{"AUG", 100, api.Regs{}, words{100: 5}, api.Regs{}, cells(100, 6), from(100)},
		{"AUG", 100, api.Regs{}, words{100: 0}, api.Regs{}, cells(100, 1), from(100)},
		{"AUG", 100, api.Regs{}, words{100: 16383}, api.Regs{}, cells(100, 0), from(100)},
		{"AUG", 100, api.Regs{}, words{100: 32762}, api.Regs{}, cells(100, 32761), from(100)},
		{"AUG", 100, api.Regs{}, words{100: 32767}, api.Regs{}, cells(100, 32766), from(100)},
		{"AUG", 100, api.Regs{}, words{100: 16384}, api.Regs{}, cells(100, 32767), from(100)},
		{"AUG", 0, api.Regs{A: 32767}, nil, api.Regs{A: 32768}, nil, nil},
		{"AUG", 0, api.Regs{A: 32768}, nil, api.Regs{A: 32767}, nil, nil},
		{"AUG", 5, api.Regs{}, nil, api.Regs{Z: 2050}, nil, nil},
		{"AUG", 17, api.Regs{}, words{17: 5}, api.Regs{}, cells(17, 3), from(17)},
		{"DIM", 100, api.Regs{}, words{100: 5}, api.Regs{}, cells(100, 4), from(100)},
		{"DIM", 100, api.Regs{}, words{100: 1}, api.Regs{}, cells(100, 0), from(100)},
		{"DIM", 100, api.Regs{}, words{100: 0}, api.Regs{}, cells(100, 0), from(100)},
		{"DIM", 100, api.Regs{}, words{100: 32762}, api.Regs{}, cells(100, 32763), from(100)},
		{"DIM", 100, api.Regs{}, words{100: 32766}, api.Regs{}, cells(100, 32767), from(100)},
		{"DIM", 100, api.Regs{}, words{100: 32767}, api.Regs{}, cells(100, 32767), from(100)},
		{"DIM", 0, api.Regs{A: 32767}, nil, api.Regs{A: 32766}, nil, nil},
		{"DIM", 0, api.Regs{A: 32768}, nil, api.Regs{A: 32769}, nil, nil},
		{"DIM", 0, api.Regs{A: 65535}, nil, api.Regs{A: 65535}, nil, nil},
		{"DIM", 5, api.Regs{}, nil, api.Regs{Z: 2048}, nil, nil},
		{"DIM", 7, api.Regs{}, words{7: 9}, api.Regs{}, nil, nil},
		{"DIM", 18, api.Regs{}, words{18: 32767}, api.Regs{}, cells(18, 32767), from(18)},
	})
}

// TestTake tests P5.3: the instructions that take words into A, L and Index, also from fixed memory.
func TestTake(t *testing.T) {
	checkAll(t, []effect{
		{"CA", 100, api.Regs{A: 9, L: 8}, words{100: 32766}, api.Regs{A: 65534, L: 8}, nil, from(100)},
		{"CA", 3000, api.Regs{}, nil, api.Regs{A: 7}, nil, []api.Spot{fixed(3000)}},
		{"CA", 1024, api.Regs{FB: 35 - 8, Super: 4}, nil, api.Regs{FB: 27, Super: 4}, nil, []api.Spot{fixed(35840)}},
		{"CA", 2047, api.Regs{FB: 27, Super: 7}, nil, api.Regs{A: 18, FB: 27, Super: 7}, nil, []api.Spot{fixed(36863)}},
		{"CA", 0, api.Regs{A: 16384}, nil, api.Regs{A: 16384}, nil, nil},
		{"CA", 5, api.Regs{}, nil, api.Regs{A: 2049}, nil, nil},
		{"CA", 6, api.Regs{EB: 3, FB: 16}, nil, api.Regs{A: 49152 + 3, EB: 3, FB: 16}, nil, nil},
		{"CA", 7, api.Regs{A: 5}, words{7: 9}, api.Regs{}, nil, nil},
		{"CA", 16, api.Regs{}, words{16: 5}, api.Regs{A: 5}, nil, from(16)},
		{"CS", 100, api.Regs{A: 9}, words{100: 5}, api.Regs{A: 65530}, nil, from(100)},
		{"CS", 100, api.Regs{}, words{100: 0}, api.Regs{A: 65535}, nil, from(100)},
		{"CS", 100, api.Regs{A: 9}, words{100: 32767}, api.Regs{}, nil, from(100)},
		{"CS", 0, api.Regs{A: 16384}, nil, api.Regs{A: 49151}, nil, nil},
		{"CS", 3001, api.Regs{}, nil, api.Regs{A: 2}, nil, []api.Spot{fixed(3001)}},
		{"INDEX", 100, api.Regs{A: 9}, words{100: 5}, api.Regs{A: 9, Index: 5}, nil, from(100)},
		{"INDEX", 100, api.Regs{}, words{100: 32766}, api.Regs{Index: 32766}, nil, from(100)},
		{"INDEX", 0, api.Regs{A: 16385}, nil, api.Regs{A: 16385, Index: 1}, nil, nil}, // corrected
		{"INDEX", 5, api.Regs{}, nil, api.Regs{Index: 2049}, nil, nil},
		{"XINDEX", 100, api.Regs{A: 9}, words{100: 5}, api.Regs{A: 9, Index: 5, Extended: true}, nil, from(100)},
		{"XINDEX", 15, api.Regs{}, words{15: 5}, api.Regs{Index: 5, Extended: true}, nil, from(15)},
		{"XINDEX", 3001, api.Regs{}, nil, api.Regs{Index: 32765, Extended: true}, nil, []api.Spot{fixed(3001)}},
		{"MASK", 100, api.Regs{A: 12}, words{100: 10}, api.Regs{A: 8}, nil, from(100)},
		{"MASK", 100, api.Regs{A: 65535}, words{100: 16385}, api.Regs{A: 49153}, nil, from(100)},
		{"MASK", 100, api.Regs{A: 16384 + 5}, words{100: 32767}, api.Regs{A: 5}, nil, from(100)},
		{"MASK", 100, api.Regs{A: 32768 + 5}, words{100: 32767}, api.Regs{A: 49152 + 5}, nil, from(100)},
		{"MASK", 0, api.Regs{A: 16384 + 5}, nil, api.Regs{A: 5}, nil, nil},
		{"MASK", 3000, api.Regs{A: 18}, nil, api.Regs{A: 2}, nil, []api.Spot{fixed(3000)}},
		{"DCA", 100, api.Regs{A: 9, L: 8}, words{100: 32766, 101: 32765}, api.Regs{A: 65534, L: 32765}, nil, from(101, 100)},
		{"DCA", 0, api.Regs{A: 16384, L: 8}, nil, api.Regs{A: 16384, L: 8}, nil, nil},
		{"DCA", 1, api.Regs{L: 32766, Q: 5}, nil, api.Regs{A: 65534, L: 5, Q: 5}, nil, nil},
		{"DCA", 6, api.Regs{L: 8, EB: 1, FB: 1}, words{7: 9}, api.Regs{A: 1025, EB: 1, FB: 1}, nil, nil},
		{"DCA", 7, api.Regs{A: 9}, words{8: 3}, api.Regs{L: 3}, nil, from(8)},
		{"DCA", 767, api.Regs{EB: 5}, words{767: 1, 768: 2}, api.Regs{A: 1, L: 2, EB: 5}, nil, from(768, 767)},
		{"DCA", 1023, api.Regs{EB: 2}, words{767: 1, 768: 2}, api.Regs{A: 1, L: 2, EB: 2}, nil, from(768, 767)},
		{"DCA", 1023, api.Regs{A: 16385, EB: 7, FB: 5}, words{2047: 4}, api.Regs{A: 4, L: 1, EB: 7, FB: 5}, nil, from(2047)},
		{"DCA", 2047, api.Regs{}, nil, api.Regs{A: 11, L: 12}, nil, []api.Spot{fixed(1024), fixed(1023)}},
		{"DCA", 2047, api.Regs{FB: 1}, nil, api.Regs{A: 13, L: 12288 + 2047, FB: 1}, nil, []api.Spot{fixed(2048), fixed(2047)}}, // the word after is the instruction
		{"DCA", 3071, api.Regs{}, nil, api.Regs{A: 14, L: 15}, nil, []api.Spot{fixed(3072), fixed(3071)}},
		{"DCA", 4095, api.Regs{}, nil, api.Regs{A: 16, L: 17}, nil, []api.Spot{fixed(4096), fixed(4095)}},
		{"DCA", 2047, api.Regs{FB: 27, Super: 4}, nil, api.Regs{A: 18, L: 77, FB: 27, Super: 4}, nil, []api.Spot{fixed(0), fixed(36863)}},
		{"DCS", 100, api.Regs{A: 9, L: 8}, words{100: 32766, 101: 5}, api.Regs{A: 1, L: 32762}, nil, from(101, 100)},
		{"DCS", 100, api.Regs{}, words{}, api.Regs{A: 65535, L: 32767}, nil, from(101, 100)},
		{"DCS", 0, api.Regs{A: 16384, L: 8}, nil, api.Regs{A: 49151, L: 32759}, nil, nil},
		{"DCS", 1, api.Regs{L: 32766, Q: 5}, nil, api.Regs{A: 1, L: 32762, Q: 5}, nil, nil},
		{"DCS", 1023, api.Regs{A: 16385, EB: 7}, words{2047: 4}, api.Regs{A: 65531, L: 32766, EB: 7}, nil, from(2047)},
		{"DCS", 2047, api.Regs{FB: 27, Super: 4}, nil, api.Regs{A: 65517, L: 32690, FB: 27, Super: 4}, nil, []api.Spot{fixed(0), fixed(36863)}},
	})
}

// TestProducts tests P5.3: MP, DV and MSU.
func TestProducts(t *testing.T) {
	checkAll(t, []effect{
		{"MP", 100, api.Regs{A: 3, L: 9}, words{100: 5}, api.Regs{L: 15}, nil, from(100)},
		{"MP", 100, api.Regs{A: 16383}, words{100: 16384}, api.Regs{A: 49153, L: 32766}, nil, from(100)},
		{"MP", 100, api.Regs{A: 16384 + 8192}, words{100: 2}, api.Regs{A: 1}, nil, from(100)}, // corrected
		{"MP", 100, api.Regs{A: 0}, words{100: 32762}, api.Regs{A: 65535, L: 32767}, nil, from(100)},
		{"MP", 0, api.Regs{A: 65531}, nil, api.Regs{L: 16}, nil, nil},
		{"MP", 1, api.Regs{A: 3, L: 5}, nil, api.Regs{L: 15}, nil, nil},
		{"MP", 3000, api.Regs{A: 3}, nil, api.Regs{L: 21}, nil, []api.Spot{fixed(3000)}},
		{"DV", 100, api.Regs{A: 0, L: 17}, words{100: 5}, api.Regs{A: 3, L: 2}, nil, from(100)},
		{"DV", 100, api.Regs{A: 65535, L: 32750}, words{100: 5}, api.Regs{A: 65532, L: 32765}, nil, from(100)},
		{"DV", 100, api.Regs{A: 16384 + 1, L: 0}, words{100: 32762}, api.Regs{A: 65535 - 3276, L: 4}, nil, from(100)}, // corrected
		{"DV", 100, api.Regs{A: 5, L: 7}, words{100: 5}, api.Regs{A: 16383, L: 7}, nil, from(100)},
		{"DV", 100, api.Regs{A: 5, L: 7}, words{100: 32767}, api.Regs{A: 49152, L: 7}, nil, from(100)},
		{"DV", 0, api.Regs{A: 5, L: 7}, nil, api.Regs{A: 16383, L: 7}, nil, nil},
		{"DV", 1, api.Regs{A: 0, L: 7}, nil, api.Regs{A: 1, L: 0}, nil, nil},
		{"DV", 5, api.Regs{A: 1, L: 8}, nil, api.Regs{A: 8, L: 0}, nil, nil},
		{"MSU", 100, api.Regs{A: 5, L: 9}, words{100: 3}, api.Regs{A: 2, L: 9}, nil, from(100)},
		{"MSU", 100, api.Regs{A: 3}, words{100: 5}, api.Regs{A: 65533}, nil, from(100)},
		{"MSU", 100, api.Regs{A: 0}, words{100: 16384}, api.Regs{A: 49152}, nil, from(100)},
		{"MSU", 100, api.Regs{A: 1}, words{100: 32767}, api.Regs{A: 2}, nil, from(100)},
		{"MSU", 100, api.Regs{A: 16384 + 5}, words{100: 3}, api.Regs{A: 2}, nil, from(100)},
		{"MSU", 0, api.Regs{A: 16384 + 5}, nil, api.Regs{}, nil, nil},
	})
}

// TestBranch tests P5.3: BZF and BZMF take one cycle if they branch, and two otherwise.
func TestBranch(t *testing.T) {
	for _, a := range []api.Acc{0, 1, 2, 16383, 16384, 32767, 32768, 32769, 49151, 49152, 65533, 65534, 65535} {
		stay := api.Regs{A: a, Z: 2049}
		for _, k := range []int{1024, 3000, 4095} {
			branch := api.Regs{A: a, Z: k}
			zero, minus := stay, stay
			if a == 0 || a == 65535 {
				zero = branch
			}
			if a == 0 || a > 32767 {
				minus = branch
			}
			effect{"BZF", k, api.Regs{A: a}, nil, zero, nil, nil}.check(t)
			effect{"BZMF", k, api.Regs{A: a}, nil, minus, nil, nil}.check(t)
		}
	}
	for _, name := range []string{"BZF", "BZMF"} {
		v := view(nil, words{2048: code(t, name, 2049)}, nil)
		for a, cycles := range map[api.Acc]int{0: 1, 5: 2} { // to the next instruction: only the cycles differ
			r, d, _ := Step(api.Regs{A: a, Z: 2048, Extended: true}, v)
			check(t, r, api.Regs{A: a, Z: 2049}, name, a)
			check(t, d.Cycles, cycles, "Cycles of", name, a)
		}
	}
}

// TestChannels tests P5.3: the instructions of channels, and the channels 1, 2 and 7, which are registers.
func TestChannels(t *testing.T) {
	for _, x := range []struct {
		name          string
		k             int
		before, after api.Regs
		outs          []api.Cell
	}{
		{"READ", 3, api.Regs{A: 9}, api.Regs{A: 5}, nil},
		{"READ", 8, api.Regs{A: 9}, api.Regs{A: 65534}, nil},
		{"READ", 10, api.Regs{A: 9}, api.Regs{A: 65535}, nil}, // the highest bit does not count
		{"READ", 0, api.Regs{A: 5, L: 6}, api.Regs{A: 9, L: 6}, nil},
		{"READ", 1, api.Regs{L: 32766}, api.Regs{A: 65534, L: 32766}, nil},
		{"READ", 2, api.Regs{Q: 16384}, api.Regs{A: 49152, Q: 16384}, nil},
		{"READ", 7, api.Regs{Super: 7}, api.Regs{A: 112, Super: 7}, nil},
		{"READ", 511, api.Regs{}, api.Regs{A: 12}, nil},
		{"READ", 510, api.Regs{A: 5}, api.Regs{}, nil},
		{"WRITE", 3, api.Regs{A: 9}, api.Regs{A: 9}, cells(3, 9)},
		{"WRITE", 0, api.Regs{A: 65534}, api.Regs{A: 65534}, cells(0, 32766)},
		{"WRITE", 8, api.Regs{A: 16385}, api.Regs{A: 16385}, cells(8, 1)},
		{"WRITE", 511, api.Regs{A: 49151}, api.Regs{A: 49151}, cells(511, 32767)},
		{"WRITE", 16, api.Regs{A: 5}, api.Regs{A: 5}, cells(16, 5)}, // no editing
		{"WRITE", 1, api.Regs{A: 49151}, api.Regs{A: 49151, L: 32767}, nil},
		{"WRITE", 2, api.Regs{A: 16385}, api.Regs{A: 16385, Q: 1}, nil},
		{"WRITE", 7, api.Regs{A: 65535}, api.Regs{A: 65535, Super: 7}, nil},
		{"WRITE", 7, api.Regs{A: 65535 - 16, Super: 1}, api.Regs{A: 65535 - 16, Super: 6}, nil},
		{"WRITE", 7, api.Regs{A: 128 + 15, Super: 5}, api.Regs{A: 128 + 15}, nil},
		{"RAND", 3, api.Regs{A: 12}, api.Regs{A: 4}, nil},
		{"RAND", 8, api.Regs{A: 65535}, api.Regs{A: 65534}, nil},
		{"RAND", 8, api.Regs{A: 16384 + 3}, api.Regs{A: 2}, nil},
		{"RAND", 7, api.Regs{A: 48, Super: 5}, api.Regs{A: 16, Super: 5}, nil},
		{"ROR", 3, api.Regs{A: 12}, api.Regs{A: 13}, nil},
		{"ROR", 8, api.Regs{A: 1}, api.Regs{A: 65535}, nil},
		{"ROR", 3, api.Regs{A: 32768}, api.Regs{A: 49152 + 5}, nil},
		{"ROR", 1, api.Regs{A: 1, L: 2}, api.Regs{A: 3, L: 2}, nil},
		{"RXOR", 3, api.Regs{A: 12}, api.Regs{A: 9}, nil},
		{"RXOR", 8, api.Regs{A: 65535}, api.Regs{A: 1}, nil},
		{"RXOR", 3, api.Regs{A: 16384 + 5}, api.Regs{A: 0}, nil},
		{"RXOR", 2, api.Regs{A: 1, Q: 3}, api.Regs{A: 2, Q: 3}, nil},
		{"WAND", 3, api.Regs{A: 12}, api.Regs{A: 4}, cells(3, 4)},
		{"WAND", 8, api.Regs{A: 65535}, api.Regs{A: 65534}, cells(8, 32766)},
		{"WAND", 3, api.Regs{A: 16384 + 13}, api.Regs{A: 5}, cells(3, 5)},
		{"WAND", 1, api.Regs{A: 6, L: 3}, api.Regs{A: 2, L: 2}, nil},
		{"WAND", 2, api.Regs{A: 65535, Q: 32766}, api.Regs{A: 65534, Q: 32766}, nil},
		{"WAND", 7, api.Regs{A: 48, Super: 5}, api.Regs{A: 16, Super: 1}, nil},
		{"WOR", 3, api.Regs{A: 12}, api.Regs{A: 13}, cells(3, 13)},
		{"WOR", 8, api.Regs{A: 1}, api.Regs{A: 65535}, cells(8, 32767)},
		{"WOR", 10, api.Regs{}, api.Regs{A: 65535}, cells(10, 32767)},
		{"WOR", 1, api.Regs{A: 6, L: 3}, api.Regs{A: 7, L: 7}, nil},
		{"WOR", 2, api.Regs{A: 49152, Q: 3}, api.Regs{A: 49155, Q: 16387}, nil},
		{"WOR", 7, api.Regs{A: 128 + 33, Super: 5}, api.Regs{A: 128 + 113, Super: 7}, nil}, // A keeps the bits that Super has not
		{"EDRUPT", 0, api.Regs{A: 5, L: 6, Q: 7}, api.Regs{A: 5, L: 6, Q: 7}, nil},
		{"EDRUPT", 511, api.Regs{A: 5, Inhibit: true}, api.Regs{A: 5, Inhibit: true}, nil},
	} {
		effect{x.name, x.k, x.before, nil, x.after, nil, nil}.checkOuts(t, x.outs)
	}
}
