package parity

import (
	"math"
	"math/bits"
	"slices"
	"testing"

	"perilune/api"
)

// eachWord calls f for every api.Word, with and without the highest bit, together with the number that its 15 low bits form.
func eachWord(f func(w api.Word, low int)) {
	for n := range 65536 {
		f(api.Word(n), n%32768)
	}
}

// odd reports whether n has an odd number of ones.
func odd(n int) bool { return bits.OnesCount(uint(n))%2 == 1 }

// check reports a result that is not the one wanted.
func check[T comparable](t *testing.T, got, want T, call string, args ...any) {
	t.Helper()
	if got != want {
		t.Fatalf("%s of %v = %v, want %v", call, args, got, want)
	}
}

// TestExamples tests the rows of the chapter's section Examples.
func TestExamples(t *testing.T) {
	check(t, [3]bool{Odd(0), Odd(7), Odd(32769)}, [3]bool{false, true, true}, "Odd")
	check(t, [4]api.Stored{Put(0), Put(1), Put(3), Put(32767)}, [4]api.Stored{32768, 1, 32771, 32767}, "Put")
	checkGet(t, 32768, 0, true)
	checkGet(t, 0, 0, false)
	checkGet(t, 32769, 1, false)
	checkFlip(t, 1, 15, 32769, api.OK)
	checkFlip(t, 1, 0, 0, api.OK)
	checkFlip(t, 1, 16, 0, api.ErrRange)
	if got := All([]api.Word{1, 3}); !slices.Equal(got, []api.Stored{1, 32771}) {
		t.Errorf("All: %v", got)
	}
	if got := Bad([]api.Stored{1, 0, 32768, 3}); !slices.Equal(got, []int{1, 3}) {
		t.Errorf("Bad: %v", got)
	}
}

// checkGet compares both results of Get.
func checkGet(t *testing.T, s api.Stored, word api.Word, right bool) {
	t.Helper()
	w, ok := Get(s)
	check(t, w, word, "word of Get", s)
	check(t, ok, right, "parity of Get", s)
}

// checkFlip compares both results of Flip.
func checkFlip(t *testing.T, s api.Stored, bit int, want api.Stored, code api.Errno) {
	t.Helper()
	got, e := Flip(s, bit)
	check(t, e, code, "error of Flip", s, bit)
	check(t, got, want, "Flip", s, bit)
}

// TestOdd tests P2.1.
func TestOdd(t *testing.T) {
	for w, want := range map[api.Word]bool{0: false, 1: true, 3: false, 7: true, 16384: true, 16385: false, 32766: false, 32767: true, 32768: false, 32769: true, 65534: false, 65535: true} {
		check(t, Odd(w), want, "Odd", w)
	}
	eachWord(func(w api.Word, low int) {
		check(t, Odd(w), odd(low), "Odd", w)
	})
}

// TestPut tests P2.1.
func TestPut(t *testing.T) {
	for w, want := range map[api.Word]api.Stored{0: 32768, 1: 1, 2: 2, 3: 32771, 5: 32773, 16384: 16384, 16385: 49153, 32766: 65534, 32767: 32767, 32768: 32768, 32769: 1, 65535: 32767} {
		check(t, Put(w), want, "Put", w)
	}
	eachWord(func(w api.Word, low int) {
		s := int(Put(w))
		check(t, s%32768, low, "low bits of Put", w)
		check(t, odd(s), true, "parity of Put", w)
	})
}

// TestGet tests P2.2.
func TestGet(t *testing.T) {
	checkGet(t, 65535, 32767, false)
	checkGet(t, 32767, 32767, true)
	checkGet(t, 65534, 32766, true)
	checkGet(t, 16384, 16384, true)
	checkGet(t, 49152, 16384, false)
	for n := range 65536 {
		checkGet(t, api.Stored(n), api.Word(n%32768), odd(n))
	}
}

// TestFlip tests P2.3.
func TestFlip(t *testing.T) {
	checkFlip(t, 0, 0, 1, api.OK)
	checkFlip(t, 65535, 15, 32767, api.OK)
	checkFlip(t, 65535, 0, 65534, api.OK)
	checkFlip(t, 40, 3, 32, api.OK)
	for n := range 65536 {
		place := 1
		for bit := range 16 {
			want := n + place
			if n/place%2 == 1 {
				want = n - place
			}
			checkFlip(t, api.Stored(n), bit, api.Stored(want), api.OK)
			place *= 2
		}
	}
}

// TestFlipOutOfRange tests P2.3.
func TestFlipOutOfRange(t *testing.T) {
	for _, bit := range []int{-1, -15, -16, 16, 17, 31, 32, 63, 64, 256, 1 << 32, 1<<32 + 1, math.MaxInt, math.MinInt} {
		for _, s := range []api.Stored{0, 1, 32768, 65535} {
			checkFlip(t, s, bit, 0, api.ErrRange)
		}
	}
}

// TestAll tests P2.4.
func TestAll(t *testing.T) {
	check(t, len(All(nil)), 0, "length of All", "nil")
	check(t, len(All([]api.Word{})), 0, "length of All", "an empty list")
	if got := All([]api.Word{3, 1, 3, 0, 32769}); !slices.Equal(got, []api.Stored{32771, 1, 32771, 32768, 1}) {
		t.Errorf("All of equal words, and of one with its highest bit: %v", got)
	}
	var l []api.Word
	var want []api.Stored
	eachWord(func(w api.Word, _ int) {
		l = append(l, w)
		want = append(want, Put(w))
	})
	if got := All(l); !slices.Equal(got, want) {
		t.Error("All of every word is not Put of each")
	}
}

// TestBad tests P2.4.
func TestBad(t *testing.T) {
	rows := []struct {
		l    []api.Stored
		want []int
	}{
		{nil, nil},
		{[]api.Stored{}, nil},
		{[]api.Stored{32768}, nil},
		{[]api.Stored{0}, []int{0}},
		{[]api.Stored{1, 2, 4}, nil},
		{[]api.Stored{0, 0, 0}, []int{0, 1, 2}},
		{[]api.Stored{4, 6, 32774, 9}, []int{1, 3}},
		{[]api.Stored{65535, 32767, 32769}, []int{0, 2}},
	}
	for _, r := range rows {
		if got := Bad(r.l); !slices.Equal(got, r.want) {
			t.Errorf("Bad of %v = %v, want %v", r.l, got, r.want)
		}
	}
	var l []api.Stored
	var want []int
	for n := range 65536 {
		l = append(l, api.Stored(65535-n))
		if !odd(65535 - n) {
			want = append(want, n)
		}
	}
	if got := Bad(l); !slices.Equal(got, want) {
		t.Error("Bad of every stored word is wrong")
	}
}

// TestListsStayAsTheyAre tests P2.4 with rule 5: neither a list that is passed nor its spare capacity is modified.
func TestListsStayAsTheyAre(t *testing.T) {
	words := []api.Word{32769, 3, 5, 65535, 7, 9}
	stored := []api.Stored{0, 1, 65535, 3, 8, 10}
	All(words[:4])
	Bad(stored[:4])
	if !slices.Equal(words, []api.Word{32769, 3, 5, 65535, 7, 9}) {
		t.Errorf("All changed its argument: %v", words)
	}
	if !slices.Equal(stored, []api.Stored{0, 1, 65535, 3, 8, 10}) {
		t.Errorf("Bad changed its argument: %v", stored)
	}
}

// TestGetOfPut tests P2.5.
func TestGetOfPut(t *testing.T) {
	eachWord(func(w api.Word, low int) {
		checkGet(t, Put(w), api.Word(low), true)
	})
}

// TestInvertedBits tests P2.5.
func TestInvertedBits(t *testing.T) {
	for _, w := range []api.Word{0, 1, 3, 16384, 21845, 32767} {
		for set := range 65536 {
			s := Put(w)
			for bit := range 16 {
				if set>>bit&1 == 1 {
					s, _ = Flip(s, bit)
				}
			}
			_, right := Get(s)
			check(t, right, !odd(set), "parity after inverting the bits", w, set)
		}
	}
}

// TestHalfOfTheStoredWordsAreRight tests P2.5.
func TestHalfOfTheStoredWordsAreRight(t *testing.T) {
	n := 0
	for s := range 65536 {
		if _, right := Get(api.Stored(s)); right {
			n++
		}
	}
	check(t, n, 32768, "number of stored words with right parity")
}
