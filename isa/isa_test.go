package isa

import (
	"math"
	"slices"
	"strconv"
	"strings"
	"testing"

	"perilune/api"
)

// chapter is the chapter's table of instructions: Code, Name, Extended, Kind, base, Cycles.
const chapter = `
1 TC no KindAny 0 1
2 EXTEND no KindNone 6 1
3 INHINT no KindNone 4 1
4 RELINT no KindNone 3 1
5 CCS no KindErasable 4096 2
6 TCF no KindFixed 4096 1
7 DAS no KindErasable 8192 3
8 LXCH no KindErasable 9216 2
9 INCR no KindErasable 10240 2
10 ADS no KindErasable 11264 2
11 CA no KindAny 12288 2
12 CS no KindAny 16384 2
13 INDEX no KindErasable 20480 2
14 RESUME no KindNone 20495 2
15 DXCH no KindErasable 21504 3
16 TS no KindErasable 22528 2
17 XCH no KindErasable 23552 2
18 AD no KindAny 24576 2
19 MASK no KindAny 28672 2
20 READ yes KindChannel 0 2
21 WRITE yes KindChannel 512 2
22 RAND yes KindChannel 1024 2
23 WAND yes KindChannel 1536 2
24 ROR yes KindChannel 2048 2
25 WOR yes KindChannel 2560 2
26 RXOR yes KindChannel 3072 2
27 EDRUPT yes KindChannel 3584 3
28 DV yes KindErasable 4096 6
29 BZF yes KindFixed 4096 2
30 MSU yes KindErasable 8192 2
31 QXCH yes KindErasable 9216 2
32 AUG yes KindErasable 10240 2
33 DIM yes KindErasable 11264 2
34 DCA yes KindAny 12288 3
35 DCS yes KindAny 16384 3
36 XINDEX yes KindAny 20480 2
37 SU yes KindErasable 24576 2
38 BZMF yes KindFixed 24576 2
39 MP yes KindAny 28672 3
`

// operandsOf is the chapter's table of kinds: the least operand, the greatest operand, the bits.
var operandsOf = map[api.OpKind][3]int{
	api.KindNone:     {0, 0, 0},
	api.KindErasable: {0, 1023, 10},
	api.KindFixed:    {1024, 4095, 12},
	api.KindAny:      {0, 4095, 12},
	api.KindChannel:  {0, 511, 9},
}

// kindNames are the names that the chapter's tables give to the kinds.
var kindNames = map[string]api.OpKind{
	"KindNone":     api.KindNone,
	"KindErasable": api.KindErasable,
	"KindFixed":    api.KindFixed,
	"KindAny":      api.KindAny,
	"KindChannel":  api.KindChannel,
}

// outside are numbers that are operands of no kind; a conversion to fewer bits would make some of them operands.
var outside = []int{-1, -2, -512, -1024, -4096, -32768, 4096, 4097, 8192, 32767, 32768, 1 << 16, 1<<16 + 1024, 1<<32 + 1024, 1<<32 - 1, math.MaxInt, math.MaxInt - 1, math.MinInt, math.MinInt + 1}

// noCodes are Codes of no instruction.
var noCodes = []api.OpCode{0, 40, 41, 64, 127, 128, 129, 167, 168, 254, 255}

// row is a row of the chapter's table.
type row struct {
	op   api.Op
	base int
}

// rows returns the rows of the chapter's table.
func rows(t *testing.T) []row {
	t.Helper()
	number := func(s string) int {
		n, err := strconv.Atoi(s)
		if err != nil {
			t.Fatal(err)
		}
		return n
	}
	var out []row
	for line := range strings.Lines(strings.TrimSpace(chapter)) {
		f := strings.Fields(line)
		kind := kindNames[f[3]]
		o := api.Op{
			Code:     api.OpCode(number(f[0])),
			Name:     f[1],
			Extended: f[2] == "yes",
			Kind:     kind,
			Bits:     operandsOf[kind][2],
			Cycles:   number(f[5]),
		}
		out = append(out, row{o, number(f[4])})
	}
	if len(out) != 39 {
		t.Fatalf("%d rows", len(out))
	}
	return out
}

// taken reports whether the chapter reserves an operand of an instruction.
func taken(o api.Op, k int) bool {
	return o.Name == "TC" && (k == 3 || k == 4 || k == 6) || o.Name == "INDEX" && k == 15
}

// check reports a result that is not the one wanted.
func check[T comparable](t *testing.T, got, want T, call string, args ...any) {
	t.Helper()
	if got != want {
		t.Fatalf("%s of %v = %v, want %v", call, args, got, want)
	}
}

// found is the result of Find and of Of.
type found struct {
	o api.Op
	e api.Errno
}

// coded is the result of Encode.
type coded struct {
	w api.Word
	e api.Errno
}

// decoded is the result of Decode.
type decoded struct {
	o api.Op
	k int
	e api.Errno
}

func find(name string) found {
	o, e := Find(name)
	return found{o, e}
}

func of(code api.OpCode) found {
	o, e := Of(code)
	return found{o, e}
}

func ranged(o api.Op) [2]int {
	least, most := Range(o)
	return [2]int{least, most}
}

func encode(o api.Op, k int) coded {
	w, e := Encode(o, k)
	return coded{w, e}
}

func decode(w api.Word, extended bool) decoded {
	o, k, e := Decode(w, extended)
	return decoded{o, k, e}
}

// named returns the instruction with a name that the chapter lists.
func named(t *testing.T, name string) api.Op {
	t.Helper()
	for _, r := range rows(t) {
		if r.op.Name == name {
			return r.op
		}
	}
	t.Fatalf("no instruction %s", name)
	return api.Op{}
}

// TestExamples tests the rows of the chapter's section Examples.
func TestExamples(t *testing.T) {
	ccs, e := Find("CCS")
	check(t, ccs.Code, 5, "Code", "CCS")
	check(t, ccs.Kind, api.KindErasable, "Kind", "CCS")
	check(t, ccs.Cycles, 2, "Cycles", "CCS")
	check(t, e, api.OK, "Find", "CCS")
	check(t, find("ccs"), found{e: api.ErrUndefined}, "Find", "ccs")
	mp, e := Of(39)
	check(t, mp.Name, "MP", "Name", 39)
	check(t, e, api.OK, "Of", 39)
	check(t, of(0), found{e: api.ErrUndefined}, "Of", 0)

	check(t, ranged(named(t, "TCF")), [2]int{1024, 4095}, "Range", "TCF")
	check(t, ranged(named(t, "READ")), [2]int{0, 511}, "Range", "READ")
	check(t, ranged(named(t, "RESUME")), [2]int{0, 0}, "Range", "RESUME")

	for _, x := range []struct {
		name string
		k    int
		want coded
	}{
		{"TC", 100, coded{100, api.OK}},
		{"TC", 4, coded{0, api.ErrRange}},
		{"TCF", 1024, coded{5120, api.OK}},
		{"XCH", 7, coded{23559, api.OK}},
		{"WRITE", 511, coded{1023, api.OK}},
		{"RESUME", 0, coded{20495, api.OK}},
		{"INDEX", 15, coded{0, api.ErrRange}},
		{"CCS", 1024, coded{0, api.ErrRange}},
	} {
		check(t, encode(named(t, x.name), x.k), x.want, "Encode", x.name, x.k)
	}

	for _, x := range []struct {
		w        api.Word
		extended bool
		name     string
		k        int
	}{
		{6, false, "EXTEND", 0},
		{6, true, "READ", 6},
		{20495, false, "RESUME", 0},
		{20495, true, "XINDEX", 15},
		{5119, false, "CCS", 1023},
		{5120, true, "BZF", 1024},
	} {
		check(t, decode(x.w, x.extended), decoded{named(t, x.name), x.k, api.OK}, "Decode", x.w, x.extended)
	}
	check(t, decode(32768, false), decoded{e: api.ErrRange}, "Decode", 32768, false)
}

// TestNames tests P4.1: the names in the order of the Codes, in a list of its own for each call.
func TestNames(t *testing.T) {
	var want []string
	for _, r := range rows(t) {
		want = append(want, r.op.Name)
	}
	first := Names()
	if !slices.Equal(first, want) {
		t.Fatalf("Names = %v, want %v", first, want)
	}
	clear(first)
	if second := Names(); !slices.Equal(second, want) {
		t.Fatalf("Names after a change of its result = %v, want %v", second, want)
	}
	check(t, find("TC").o.Name, "TC", "Find after a change of Names", "TC")
}

// TestFind tests P4.1: every instruction is found by its name, and by no other form of it.
func TestFind(t *testing.T) {
	none := found{e: api.ErrUndefined}
	for _, r := range rows(t) {
		name := r.op.Name
		check(t, find(name), found{r.op, api.OK}, "Find", name)
		for _, other := range []string{strings.ToLower(name), name[:1] + strings.ToLower(name[1:]), " " + name, name + " ", name + "\x00", name + "\n", name + name, "X" + name + "X"} {
			check(t, find(other), none, "Find", other)
		}
		if short := name[:len(name)-1]; !slices.Contains(Names(), short) {
			check(t, find(short), none, "Find", short)
		}
	}
	for _, other := range []string{"", " ", "NOOP", "CAF", "ERASE", "1", "\u0422\u0421" /* looks like TC */, "\xff", strings.Repeat("TC", 1000)} {
		check(t, find(other), none, "Find", other)
	}
}

// TestOf tests P4.1: the instruction of each of the 256 Codes.
func TestOf(t *testing.T) {
	list := rows(t)
	for code := range 256 {
		want := found{e: api.ErrUndefined}
		if code >= 1 && code <= 39 {
			want = found{list[code-1].op, api.OK}
		}
		check(t, of(api.OpCode(code)), want, "Of", code)
	}
}

// TestRange tests P4.2: the operands of each kind, and of kinds that do not exist.
func TestRange(t *testing.T) {
	for k := range 256 {
		kind := api.OpKind(k)
		least, most := operandsOf[kind][0], operandsOf[kind][1] // zeros for other kinds
		check(t, ranged(api.Op{Kind: kind}), [2]int{least, most}, "Range", kind)
	}
	for _, r := range rows(t) {
		want := operandsOf[r.op.Kind]
		check(t, ranged(r.op), [2]int{want[0], want[1]}, "Range", r.op.Name)
	}
}

// TestRangeIgnores tests P4.2: the fields beside Kind do not matter.
func TestRangeIgnores(t *testing.T) {
	for kind, want := range operandsOf {
		for _, r := range rows(t) {
			o := r.op
			o.Kind = kind
			check(t, ranged(o), [2]int{want[0], want[1]}, "Range", o)
		}
		strange := api.Op{Code: 200, Name: "tc", Extended: true, Kind: kind, Bits: -3, Cycles: math.MaxInt}
		check(t, ranged(strange), [2]int{want[0], want[1]}, "Range", strange)
	}
	check(t, ranged(api.Op{Code: 6, Name: "TCF", Kind: 5, Bits: 12, Cycles: 1}), [2]int{0, 0}, "Range", 5)
}

// wantEncode is the result of Encode by the chapter's tables.
func wantEncode(r row, k int) coded {
	ends := operandsOf[r.op.Kind]
	if k < ends[0] || k > ends[1] || taken(r.op, k) {
		return coded{0, api.ErrRange}
	}
	return coded{api.Word(r.base + k), api.OK}
}

// TestEncode tests P4.3: every instruction with all numbers around its operands, and far from them.
func TestEncode(t *testing.T) {
	for _, r := range rows(t) {
		for k := -5000; k <= 10000; k++ {
			check(t, encode(r.op, k), wantEncode(r, k), "Encode", r.op.Name, k)
		}
		for _, k := range outside {
			check(t, encode(r.op, k), coded{0, api.ErrRange}, "Encode", r.op.Name, k)
		}
	}
}

// TestEncodeReserved tests P4.3: reserved operands, and the operands beside them.
func TestEncodeReserved(t *testing.T) {
	for _, k := range []int{3, 4, 6} {
		check(t, encode(api.Op{Code: 1}, k), coded{0, api.ErrRange}, "Encode", "TC", k)
	}
	for _, k := range []int{0, 1, 2, 5, 7, 15} {
		check(t, encode(api.Op{Code: 1}, k), coded{api.Word(k), api.OK}, "Encode", "TC", k)
	}
	check(t, encode(api.Op{Code: 13}, 15), coded{0, api.ErrRange}, "Encode", "INDEX", 15)
	for _, k := range []int{3, 4, 6, 14, 16} {
		check(t, encode(api.Op{Code: 13}, k), coded{api.Word(20480 + k), api.OK}, "Encode", "INDEX", k)
	}
	check(t, encode(api.Op{Code: 36}, 15), coded{20495, api.OK}, "Encode", "XINDEX", 15)
	check(t, encode(api.Op{Code: 20}, 6), coded{6, api.OK}, "Encode", "READ", 6)
}

// TestEncodeUndefined tests P4.3: Codes that do not exist, whose error comes before that of the operand.
func TestEncodeUndefined(t *testing.T) {
	for _, code := range noCodes {
		for _, k := range append([]int{0, 1, 3, 15, 511, 1023, 1024, 4095}, outside...) {
			o := api.Op{Code: code, Name: "TC", Kind: api.KindAny, Bits: 12, Cycles: 1}
			check(t, encode(o, k), coded{0, api.ErrUndefined}, "Encode", o, k)
		}
	}
}

// TestEncodeIgnores tests P4.3: the fields beside Code do not matter.
func TestEncodeIgnores(t *testing.T) {
	for _, r := range rows(t) {
		for _, o := range []api.Op{
			{Code: r.op.Code},
			{Code: r.op.Code, Name: "MP", Extended: !r.op.Extended, Kind: api.KindAny, Bits: 12, Cycles: 3},
			{Code: r.op.Code, Name: "tc", Extended: !r.op.Extended, Kind: api.KindNone, Bits: -1, Cycles: math.MinInt},
			{Code: r.op.Code, Extended: r.op.Extended, Kind: 200, Bits: math.MaxInt},
		} {
			for k := -1; k <= 4096; k++ {
				check(t, encode(o, k), wantEncode(r, k), "Encode", o, k)
			}
		}
	}
}

// wantDecode returns the result of Decode of each word, by the chapter's tables; it checks that they give each word one meaning.
func wantDecode(t *testing.T, extended bool) []decoded {
	t.Helper()
	out := make([]decoded, api.MaxWord+1)
	for _, r := range rows(t) {
		if r.op.Extended != extended {
			continue
		}
		ends := operandsOf[r.op.Kind]
		for k := ends[0]; k <= ends[1]; k++ {
			if taken(r.op, k) {
				continue
			}
			if out[r.base+k].o.Code != 0 {
				t.Fatalf("two meanings of %d: %v and %v", r.base+k, out[r.base+k].o, r.op)
			}
			out[r.base+k] = decoded{r.op, k, api.OK}
		}
	}
	return out
}

// TestDecode tests P4.4: all words, valid or not, with both values of extended.
func TestDecode(t *testing.T) {
	for _, extended := range []bool{false, true} {
		want := wantDecode(t, extended)
		for w := range 1 << 16 {
			if w <= api.MaxWord {
				check(t, decode(api.Word(w), extended), want[w], "Decode", w, extended)
			} else {
				check(t, decode(api.Word(w), extended), decoded{e: api.ErrRange}, "Decode", w, extended)
			}
		}
	}
}

// TestWordsRoundTrip tests P4.5: Encode of what Decode returns is the word.
func TestWordsRoundTrip(t *testing.T) {
	for _, extended := range []bool{false, true} {
		for w := range api.Word(api.MaxWord + 1) {
			d := decode(w, extended)
			if d.e != api.OK || d.o.Code == api.OpNone || d.o.Extended != extended {
				t.Fatalf("Decode of %d, %v = %v", w, extended, d)
			}
			check(t, encode(d.o, d.k), coded{w, api.OK}, "Encode of Decode", w, extended)
		}
	}
}

// TestInstructionsRoundTrip tests P4.5: Decode of what Encode returns is the instruction and the operand.
func TestInstructionsRoundTrip(t *testing.T) {
	for i, name := range Names() {
		o, e := Of(api.OpCode(i + 1))
		check(t, e, api.OK, "Of", i+1)
		check(t, find(name), found{o, api.OK}, "Find", name)
		least, most := Range(o)
		for k := least; k <= most; k++ {
			if taken(o, k) {
				continue
			}
			c := encode(o, k)
			check(t, c.e, api.OK, "Encode", name, k)
			check(t, decode(c.w, o.Extended), decoded{o, k, api.OK}, "Decode of Encode", name, k)
		}
	}
}
