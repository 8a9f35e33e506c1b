package cpu

import (
	"math"
	"slices"
	"testing"

	"perilune/api"
	"perilune/isa"
)

// check reports a result that is not the one wanted.
func check[T comparable](t *testing.T, got, want T, call string, args ...any) {
	t.Helper()
	if got != want {
		t.Fatalf("%s of %v = %v, want %v", call, args, got, want)
	}
}

// words is a memory that is 0 except at some addresses.
type words map[int]api.Word

// view returns a view whose slices end with the last words that are given.
func view(erasable, fixed, channels words) api.View {
	return api.View{Erasable: spread(erasable), Fixed: spread(fixed), Channels: spread(channels)}
}

func spread(m words) []api.Word {
	var out []api.Word
	for at, w := range m {
		if at >= len(out) {
			out = append(out, make([]api.Word, at+1-len(out))...)
		}
		out[at] = w
	}
	return out
}

// erasable and fixed are words of memory.
func erasable(at int) api.Spot { return api.Spot{Space: api.SpaceErasable, At: at} }

func fixed(at int) api.Spot { return api.Spot{Space: api.SpaceFixed, At: at} }

// code returns the word of an instruction.
func code(t *testing.T, name string, k int) api.Word {
	t.Helper()
	o, e := isa.Find(name)
	w, f := isa.Encode(o, k)
	if e != api.OK || f != api.OK {
		t.Fatalf("%s %d: %v, %v", name, k, e, f)
	}
	return w
}

// sameDone reports whether two effects are equal, where a nil slice is an empty one.
func sameDone(a, b api.Done) bool {
	return slices.Equal(a.Cells, b.Cells) && slices.Equal(a.Outs, b.Outs) && slices.Equal(a.Reads, b.Reads) && a.Cycles == b.Cycles && a.Op == b.Op
}

// checkLoad compares all results of Load.
func checkLoad(t *testing.T, r api.Regs, v api.View, k int, want api.Acc, read []api.Spot, code api.Errno) {
	t.Helper()
	x, l, e := Load(r, v, k)
	if x != want || !slices.Equal(l, read) || e != code {
		t.Fatalf("Load of %+v, %d = %v, %v, %v, want %v, %v, %v", r, k, x, l, e, want, read, code)
	}
}

// checkFetch compares all results of Fetch.
func checkFetch(t *testing.T, r api.Regs, v api.View, name string, k int, after api.Regs, read []api.Spot) {
	t.Helper()
	want, e := isa.Find(name)
	check(t, e, api.OK, "Find", name)
	o, n, x, l, e := Fetch(r, v)
	if o != want || n != k || x != after || !slices.Equal(l, read) || e != api.OK {
		t.Fatalf("Fetch of %+v = %v, %d, %+v, %v, %v, want %s, %d, %+v, %v", r, o, n, x, l, e, name, k, after, read)
	}
}

// checkFails compares the errors of Fetch and Step, whose other results have to be zero.
func checkFails(t *testing.T, r api.Regs, v api.View, fetch, step api.Errno) {
	t.Helper()
	o, k, x, l, e := Fetch(r, v)
	if e != fetch || e != api.OK && (o != api.Op{} || k != 0 || x != api.Regs{} || len(l) != 0) {
		t.Fatalf("Fetch of %+v = %v, %d, %+v, %v, %v, want %v", r, o, k, x, l, e, fetch)
	}
	x, d, e := Step(r, v)
	if e != step || e != api.OK && (x != api.Regs{} || !sameDone(d, api.Done{})) {
		t.Fatalf("Step of %+v = %+v, %+v, %v, want %v", r, x, d, e, step)
	}
}

// invalid returns registers each of which has one field that is not valid.
func invalid() []api.Regs {
	var out []api.Regs
	for _, w := range []api.Word{32768, 32769, 40000, 65535} {
		out = append(out, api.Regs{L: w}, api.Regs{Q: w}, api.Regs{Index: w}, api.Regs{B: w}, api.Regs{Held: true, B: w})
	}
	for _, n := range []int{-1, -2, -8, -4096, math.MinInt, math.MinInt + 1, math.MaxInt, 1 << 15, 1 << 16, 1<<16 + 1, 1 << 32, 1<<32 + 1} {
		out = append(out, api.Regs{Z: n}, api.Regs{EB: n}, api.Regs{FB: n}, api.Regs{Super: n})
	}
	return append(out, api.Regs{Z: 4096}, api.Regs{Z: 4097}, api.Regs{EB: 8}, api.Regs{EB: 9}, api.Regs{FB: 32}, api.Regs{FB: 33}, api.Regs{FB: 35}, api.Regs{Super: 8}, api.Regs{Super: 9})
}

// TestMay tests P5.1: the bounds of each register; A and the flags have none.
func TestMay(t *testing.T) {
	for _, r := range invalid() {
		check(t, May(r), false, "May", r)
	}
	for _, w := range []api.Word{0, 1, 16383, 16384, 32766, 32767} {
		for _, r := range []api.Regs{{L: w}, {Q: w}, {Index: w}, {B: w}, {Held: true, B: w}, {L: w, Q: w, Index: w, B: w}} {
			check(t, May(r), true, "May", r)
		}
	}
	for n := range 4096 {
		check(t, May(api.Regs{Z: n}), true, "May of Z", n)
		check(t, May(api.Regs{EB: n}), n < 8, "May of EB", n)
		check(t, May(api.Regs{FB: n}), n < 32, "May of FB", n)
		check(t, May(api.Regs{Super: n}), n < 8, "May of Super", n)
	}
	for _, a := range []api.Acc{0, 16384, 32767, 32768, 65535} {
		check(t, May(api.Regs{A: a, Extended: true, Inhibit: true, Serving: true}), true, "May of A", a)
	}
	check(t, May(api.Regs{L: 32767, Q: 32767, Z: 4095, EB: 7, FB: 31, Super: 7, Index: 32767, B: 32767}), true, "May of the greatest values")
}

// TestLoadRegisters tests P5.1: the registers at the addresses 0 to 7, which are not read from the view.
func TestLoadRegisters(t *testing.T) {
	v := view(words{0: 9, 1: 9, 2: 9, 3: 9, 4: 9, 5: 9, 6: 9, 7: 9, 8: 9}, nil, nil)
	for _, x := range []struct {
		r    api.Regs
		want [8]api.Acc
	}{
		{api.Regs{}, [8]api.Acc{}},
		{api.Regs{A: 16384, L: 5, Q: 6, Z: 100, EB: 3, FB: 2, Super: 6}, [8]api.Acc{16384, 5, 6, 768, 2048, 100, 2051, 0}},
		{api.Regs{A: 40000, L: 16383, Q: 16384, Z: 4095, EB: 7, FB: 15}, [8]api.Acc{40000, 16383, 49152, 1792, 15360, 4095, 15367, 0}},
		{api.Regs{A: 65535, L: 16384, Q: 32767, Z: 1, EB: 7, FB: 16}, [8]api.Acc{65535, 49152, 65535, 1792, 49152, 1, 49159, 0}},
		{api.Regs{A: 32768, L: 32767, Q: 16383, Z: 2048, EB: 1, FB: 31}, [8]api.Acc{32768, 65535, 16383, 256, 64512, 2048, 64513, 0}},
	} {
		for k, want := range x.want {
			checkLoad(t, x.r, v, k, want, nil, api.OK)
			if r := x.r; k != 3 && k != 6 { // the same register, as a word of erasable bank 0
				r.EB = 0
				checkLoad(t, r, v, k+768, want, nil, api.OK)
			}
		}
		checkLoad(t, x.r, v, 8, 9, []api.Spot{erasable(8)}, api.OK)
	}
	checkLoad(t, api.Regs{FB: 2}, v, 774, 2048, nil, api.OK)
	checkLoad(t, api.Regs{EB: 1}, v, 771, 0, []api.Spot{erasable(259)}, api.OK)
}

// TestLoadMemory tests P5.1: the four ranges of operands, the sign, the ends of the view, and the highest bit of its words.
func TestLoadMemory(t *testing.T) {
	r := api.Regs{EB: 5, FB: 9}
	for _, x := range []struct {
		k    int
		spot api.Spot
	}{
		{8, erasable(8)}, {255, erasable(255)}, {256, erasable(256)}, {767, erasable(767)},
		{768, erasable(1280)}, {1023, erasable(1535)},
		{1024, fixed(9216)}, {2047, fixed(10239)},
		{2048, fixed(2048)}, {3071, fixed(3071)}, {3072, fixed(3072)}, {4095, fixed(4095)},
	} {
		for w, want := range map[api.Word]api.Acc{0: 0, 1: 1, 16383: 16383, 16384: 49152, 32766: 65534, 32767: 65535, 32768: 0, 49152: 49152, 65535: 65535} {
			v := view(words{x.spot.At: w}, words{x.spot.At: w ^ 1}, words{x.spot.At: w ^ 1})
			if x.spot.Space == api.SpaceFixed {
				v = view(words{x.spot.At: w ^ 1}, words{x.spot.At: w}, words{x.spot.At: w ^ 1})
			}
			checkLoad(t, r, v, x.k, want, []api.Spot{x.spot}, api.OK)
		}
		checkLoad(t, r, api.View{}, x.k, 0, []api.Spot{x.spot}, api.OK)
		short := api.View{Erasable: make([]api.Word, x.spot.At, x.spot.At+1), Fixed: make([]api.Word, x.spot.At, x.spot.At+1)}
		short.Erasable[:x.spot.At+1][x.spot.At], short.Fixed[:x.spot.At+1][x.spot.At] = 7, 7
		checkLoad(t, r, short, x.k, 0, []api.Spot{x.spot}, api.OK)
	}
}

// TestLoadBanks tests P5.1: each pair of bank registers, those whose bank does not exist as well.
func TestLoadBanks(t *testing.T) {
	v := api.View{Fixed: make([]api.Word, 36864)}
	for i := range v.Fixed {
		v.Fixed[i] = api.Word(i / 1024)
	}
	for fb := range 32 {
		for super := range 8 {
			r := api.Regs{FB: fb, Super: super}
			bank := fb
			if fb >= 24 && super >= 4 {
				bank += 8
			}
			for _, k := range []int{1024, 1500, 2047} {
				if bank > 35 {
					checkLoad(t, r, v, k, 0, nil, api.ErrRange)
				} else {
					checkLoad(t, r, v, k, api.Acc(bank), []api.Spot{fixed(1024*bank + k - 1024)}, api.OK)
				}
			}
			checkLoad(t, r, v, 1023, 0, []api.Spot{erasable(255)}, api.OK)
			checkLoad(t, r, v, 2048, 2, []api.Spot{fixed(2048)}, api.OK)
			checkLoad(t, r, v, 4095, 3, []api.Spot{fixed(4095)}, api.OK)
			checkLoad(t, r, v, 100, 0, []api.Spot{erasable(100)}, api.OK)
		}
	}
}

// TestLoadErrors tests P5.1: invalid registers come before invalid operands.
func TestLoadErrors(t *testing.T) {
	v := view(words{100: 5}, words{2048: 6}, nil)
	outside := []int{-1, -2, -1024, -4096, math.MinInt, math.MinInt + 1, 4096, 4097, 5120, 8191, 32768, 65536, 65636, 1<<32 + 100, math.MaxInt, math.MaxInt - 1}
	for _, k := range outside {
		checkLoad(t, api.Regs{}, v, k, 0, nil, api.ErrRange)
		checkLoad(t, api.Regs{FB: 28, Super: 4}, v, k, 0, nil, api.ErrRange)
	}
	for _, r := range invalid() {
		for _, k := range append([]int{0, 7, 100, 1024, 2048, 4095}, outside...) {
			checkLoad(t, r, v, k, 0, nil, api.ErrArg)
		}
	}
}

// TestFetch tests P5.2: where the instruction word comes from, and what the registers are afterwards.
func TestFetch(t *testing.T) {
	v := view(words{100: 12388, 1280: 12389}, words{2048: 12390, 4095: 12391, 9216: 12392}, nil)
	checkFetch(t, api.Regs{Z: 2048}, v, "CA", 102, api.Regs{Z: 2049}, []api.Spot{fixed(2048)})
	checkFetch(t, api.Regs{Z: 100}, v, "CA", 100, api.Regs{Z: 101}, []api.Spot{erasable(100)})
	checkFetch(t, api.Regs{Z: 768, EB: 5}, v, "CA", 101, api.Regs{Z: 769, EB: 5}, []api.Spot{erasable(1280)})
	checkFetch(t, api.Regs{Z: 1024, FB: 9}, v, "CA", 104, api.Regs{Z: 1025, FB: 9}, []api.Spot{fixed(9216)})
	checkFetch(t, api.Regs{Z: 4095}, v, "CA", 103, api.Regs{Z: 0}, []api.Spot{fixed(4095)})
	checkFetch(t, api.Regs{Z: 4094}, v, "TC", 0, api.Regs{Z: 4095}, []api.Spot{fixed(4094)})
	checkFetch(t, api.Regs{Z: 3000}, api.View{}, "TC", 0, api.Regs{Z: 3001}, []api.Spot{fixed(3000)})
	checkFetch(t, api.Regs{Z: 2048}, view(nil, words{2048: 32768 + 12390}, nil), "CA", 102, api.Regs{Z: 2049}, []api.Spot{fixed(2048)})
	checkFetch(t, api.Regs{Z: 2048, Extended: true}, v, "DCA", 102, api.Regs{Z: 2049}, []api.Spot{fixed(2048)})
}

// TestFetchRegisters tests P5.2: instructions in registers, which are not words of memory. The accumulator is corrected.
func TestFetchRegisters(t *testing.T) {
	for _, x := range []struct {
		r    api.Regs
		name string
		k    int
	}{
		{api.Regs{A: 12388, Z: 0}, "CA", 100},
		{api.Regs{A: 16384 + 100, Z: 0}, "TC", 100},  // overflow: corrected to 100
		{api.Regs{A: 32768 + 100, Z: 0}, "CS", 100},  // overflow: corrected to 16384 + 100
		{api.Regs{A: 65535 - 4095, Z: 0}, "MASK", 0}, // extended: 28672
		{api.Regs{L: 20481, Z: 1}, "INDEX", 1},       // negative as a value
		{api.Regs{Q: 6, Z: 2}, "EXTEND", 0},
		{api.Regs{EB: 7, Z: 3}, "TC", 1792},
		{api.Regs{FB: 12, Z: 4}, "CA", 0},                  // 12288
		{api.Regs{FB: 31, Z: 4}, "MASK", 3072},             // 31744
		{api.Regs{Z: 5}, "TC", 5},                          // Z itself, before it is increased
		{api.Regs{FB: 21, EB: 4, Z: 6}, "DXCH", 4},         // 21508
		{api.Regs{A: 1, L: 1, Q: 1, EB: 1, Z: 7}, "TC", 0}, // always +0
		{api.Regs{Q: 4, Z: 770}, "INHINT", 0},              // register 2 as a word of bank 0
	} {
		after := x.r
		after.Z++
		checkFetch(t, x.r, view(words{0: 9, 1: 9, 2: 9, 3: 9, 4: 9, 5: 9, 6: 9, 7: 9}, nil, nil), x.name, x.k, after, nil)
	}
}

// TestFetchHeld tests P5.2: a held instruction is not read, even where Z addresses no word that exists.
func TestFetchHeld(t *testing.T) {
	v := view(nil, words{2048: 12390}, nil)
	checkFetch(t, api.Regs{Z: 2048, Held: true, B: 22629}, v, "TS", 101, api.Regs{Z: 2049}, nil)
	checkFetch(t, api.Regs{Z: 2048, Held: true}, v, "TC", 0, api.Regs{Z: 2049}, nil)
	checkFetch(t, api.Regs{Z: 4095, Held: true, B: 5, Index: 3}, v, "TC", 8, api.Regs{}, nil)
	checkFetch(t, api.Regs{Z: 2048, B: 22629}, v, "CA", 102, api.Regs{Z: 2049}, []api.Spot{fixed(2048)})
	gone := api.Regs{Z: 1030, FB: 30, Super: 5, Held: true, B: 4, Extended: true}
	checkFetch(t, gone, v, "READ", 4, api.Regs{Z: 1031, FB: 30, Super: 5}, nil)
}

// TestFetchIndex tests P5.2: the index is added with end-around carry, and may change the instruction; everything else stays.
func TestFetchIndex(t *testing.T) {
	for _, x := range []struct {
		w, index api.Word
		extended bool
		name     string
		k        int
	}{
		{12388, 1, false, "CA", 101},
		{12388, 32766, false, "CA", 99},  // -1
		{12388, 32767, false, "CA", 100}, // -0
		{12388, 12288, false, "AD", 100},
		{32767, 0, false, "MASK", 4095},
		{32767, 1, false, "TC", 1}, // 32768 - 32767
		{32767, 32767, false, "MASK", 4095},
		{0, 32767, false, "MASK", 4095},
		{0, 4, false, "INHINT", 0},
		{5, 1, false, "EXTEND", 0},
		{5, 1, true, "READ", 6},
		{20480, 15, false, "RESUME", 0},
		{20480, 15, true, "XINDEX", 15},
		{32767, 512, true, "WRITE", 0},
	} {
		v := view(nil, words{3000: x.w}, nil)
		r := api.Regs{A: 50000, L: 1, Q: 2, Z: 3000, EB: 3, FB: 4, Super: 5, Extended: x.extended, Index: x.index, B: 6, Inhibit: true, Serving: true}
		after := api.Regs{A: 50000, L: 1, Q: 2, Z: 3001, EB: 3, FB: 4, Super: 5, Inhibit: true, Serving: true}
		checkFetch(t, r, v, x.name, x.k, after, []api.Spot{fixed(3000)})
		r.Held, r.B = true, x.w
		checkFetch(t, r, view(nil, words{3000: 9}, nil), x.name, x.k, after, nil)
	}
}

// TestErrors tests P5.2 and P5.3: invalid registers, an instruction and an operand whose words do not exist.
func TestErrors(t *testing.T) {
	v := view(words{100: 5}, words{2048: 12388}, nil)
	for _, r := range invalid() {
		checkFails(t, r, v, api.ErrArg, api.ErrArg)
		r.Held = true
		checkFails(t, r, v, api.ErrArg, api.ErrArg)
		if r.Z == 0 && r.FB == 0 && r.Super == 0 {
			r.Z, r.FB, r.Super, r.Held = 1024, 28, 4, false
			checkFails(t, r, v, api.ErrArg, api.ErrArg) // before the bank
		}
	}
	for fb := 24; fb < 32; fb++ {
		for super := range 8 {
			for _, z := range []int{1024, 1500, 2047} {
				want := api.OK
				if fb >= 28 && super >= 4 {
					want = api.ErrRange
				}
				checkFails(t, api.Regs{Z: z, FB: fb, Super: super}, v, want, want)
				checkFails(t, api.Regs{Z: z, FB: fb, Super: super, Held: true}, v, api.OK, api.OK)
			}
			for _, z := range []int{0, 100, 1023, 2048, 4095} {
				checkFails(t, api.Regs{Z: z, FB: fb, Super: super}, v, api.OK, api.OK)
			}
		}
	}
}

// TestMissingOperand tests P5.3: only an instruction that reads its operand needs a word that exists.
func TestMissingOperand(t *testing.T) {
	gone := api.Regs{A: 1, Z: 2048, FB: 28, Super: 4}
	for _, name := range []string{"CA", "CS", "AD", "MASK", "DCA", "DCS", "XINDEX", "MP", "TC", "TCF", "BZF", "BZMF"} {
		o, e := isa.Find(name)
		check(t, e, api.OK, "Find", name)
		want := api.ErrRange
		if o.Kind == api.KindFixed || name == "TC" {
			want = api.OK
		}
		for _, k := range []int{1024, 1025, 2047} {
			r := gone
			r.Extended = o.Extended
			v := view(nil, words{2048: code(t, name, k)}, nil)
			checkFails(t, r, v, api.OK, want)
			r.Super = 3
			checkFails(t, r, v, api.OK, api.OK)
			r.Super, r.FB = 7, 27
			checkFails(t, r, v, api.OK, api.OK)
		}
		for _, k := range []int{2048, 4095} {
			r := gone
			r.Extended = o.Extended
			checkFails(t, r, view(nil, words{2048: code(t, name, k)}, nil), api.OK, api.OK)
		}
	}
	r, _, e := Step(gone, view(nil, words{2048: 1024}, nil))
	check(t, r, api.Regs{A: 1, Q: 2049, Z: 1024, FB: 28, Super: 4}, "Step of TC into a bank that does not exist")
	check(t, e, api.OK, "error of that Step")
	checkFails(t, r, api.View{}, api.ErrRange, api.ErrRange)
}

// value returns the value of a word by DOC.md.
func value(w api.Word) int {
	w %= 32768
	if w <= 16383 {
		return int(w)
	}
	return int(w) - 32767
}

// complement returns a word of n, or its complement.
func complement(n int, yes bool) api.Word {
	if yes {
		n = 32767 - n
	}
	return api.Word(n)
}

// edges are words at the edges of all ranges.
var edges = []api.Word{0, 1, 2, 3, 5, 127, 128, 8191, 8192, 16382, 16383, 16384, 16385, 24575, 24576, 32762, 32764, 32765, 32766, 32767}

// TestMultiply tests P5.4 by the chapter's text, for all words with the edges and their highest bits.
func TestMultiply(t *testing.T) {
	for _, x := range [][4]api.Word{
		{3, 5, 0, 15}, {16383, 16383, 16382, 1}, {0, 32766, 32767, 32767}, {32766, 32766, 0, 1},
		{16384, 16384, 16382, 1}, {16384, 16383, 16385, 32766}, {32767, 32767, 0, 0}, {32767, 5, 32767, 32767},
		{32767, 0, 32767, 32767}, {0, 0, 0, 0}, {8192, 2, 1, 0}, {8192, 32765, 32766, 32767}, {32771, 5, 0, 15},
	} {
		hi, lo := Multiply(x[0], x[1])
		check(t, [2]api.Word{hi, lo}, [2]api.Word{x[2], x[3]}, "Multiply", x[0], x[1])
	}
	for _, b := range append(edges, 32768, 32771, 49151, 49152, 65535) {
		for n := range 1 << 16 {
			a := api.Word(n)
			m := value(a) * value(b)
			if m < 0 {
				m = -m
			}
			differ := a%32768 > 16383 != (b%32768 > 16383)
			want := [2]api.Word{complement(m/16384, differ), complement(m%16384, differ)}
			hi, lo := Multiply(a, b)
			high, low := Multiply(b, a)
			if want != [2]api.Word{hi, lo} || want != [2]api.Word{high, low} {
				t.Fatalf("Multiply of %d, %d = %d %d, and %d %d the other way round, want %v", a, b, hi, lo, high, low, want)
			}
		}
	}
}

// wantDivide returns the quotient and the remainder by the chapter's text.
func wantDivide(hi, lo, d api.Word) [2]api.Word {
	hi, lo, d = hi%32768, lo%32768, d%32768
	n, m := 16384*value(hi)+value(lo), value(d)
	sign := hi
	if hi == 0 || hi == 32767 {
		sign = lo
	}
	negative := sign > 16383
	differ := negative != (d > 16383)
	if n < 0 {
		n = -n
	}
	if m < 0 {
		m = -m
	}
	if n < 16384*m {
		return [2]api.Word{complement(n/m, differ), complement(n%m, negative)}
	}
	return [2]api.Word{complement(16383, differ), lo}
}

// TestDivide tests P5.5 by the chapter's text: signs, zeros, and quotients that do not fit.
func TestDivide(t *testing.T) {
	for _, x := range [][5]api.Word{
		{0, 17, 5, 3, 2}, {0, 32750, 5, 32764, 32765}, {5, 0, 5, 16383, 0}, {1, 0, 32762, 29491, 4},
		{0, 17, 32762, 32764, 2}, {0, 32750, 32762, 3, 32765},
		{32767, 17, 5, 3, 2},        // -0 in the high word: the low word has the sign
		{0, 0, 5, 0, 0},             // +0
		{0, 32767, 5, 32767, 32767}, // -0
		{32767, 0, 5, 0, 0},         // +0 by the low word
		{32767, 32767, 5, 32767, 32767},
		{0, 5, 0, 16383, 5},     // by +0
		{0, 5, 32767, 16384, 5}, // by -0
		{0, 0, 0, 16383, 0},
		{0, 32762, 0, 16384, 32762},
		{0, 32762, 32767, 16383, 32762},
		{1, 32766, 1, 16383, 0},     // signs that differ: 16383 by 1
		{32766, 1, 1, 16384, 32767}, // -16383 by 1
		{4, 16383, 5, 16383, 4},     // the greatest dividend that fits
		{5, 32766, 5, 16383, 4},     // the same with signs that differ
		{5, 1, 5, 16383, 1},         // too large
		{32762, 1, 5, 16384, 32763}, // -81919 fits
		{32762, 32766, 5, 16384, 32766},
		{16383, 16383, 16383, 16383, 16383},
		{16384, 7, 16383, 16384, 16391},
		{32768, 32768 + 17, 32768 + 5, 3, 2}, // the highest bits do not count
		{32768 + 5, 32768 + 7, 5, 16383, 7},
	} {
		q, r := Divide(x[0], x[1], x[2])
		want := [2]api.Word{x[3], x[4]}
		check(t, wantDivide(x[0], x[1], x[2]), want, "the chapter's Divide", x[0], x[1], x[2])
		check(t, [2]api.Word{q, r}, want, "Divide", x[0], x[1], x[2])
	}
	for _, hi := range append(edges, 32768, 65535) {
		for _, lo := range append(edges, 32768, 65535) {
			for d := 0; d < 1<<16; d += 13 {
				checkDivide(t, hi, lo, api.Word(d))
			}
			for _, d := range edges {
				checkDivide(t, hi, lo, d)
			}
		}
	}
}

// checkDivide compares Divide with the chapter's text.
func checkDivide(t *testing.T, hi, lo, d api.Word) {
	q, r := Divide(hi, lo, d)
	if got, want := [2]api.Word{q, r}, wantDivide(hi, lo, d); got != want {
		t.Fatalf("Divide of %d, %d, %d = %v, want %v", hi, lo, d, got, want)
	}
}

// TestDivideWords tests P5.5 for all words in each of the three places.
func TestDivideWords(t *testing.T) {
	for n := range 1 << 16 {
		w := api.Word(n)
		for _, x := range []api.Word{0, 4, 16383, 32762, 32767} {
			for _, y := range []api.Word{0, 1, 5, 16384, 32762, 32767} {
				checkDivide(t, w, x, y)
				checkDivide(t, x, w, y)
				checkDivide(t, x, y, w)
			}
		}
	}
}
