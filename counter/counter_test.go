package counter

import (
	"math"
	"slices"
	"testing"

	"perilune/api"
)

// check reports a result that is not the one wanted.
func check[T comparable](t *testing.T, got, want T, call string, args ...any) {
	t.Helper()
	if got != want {
		t.Fatalf("%s of %v = %v, want %v", call, args, got, want)
	}
}

// checkQueue reports a queue that is not the one wanted.
func checkQueue(t *testing.T, got, want []api.Pulse, call string, args ...any) {
	t.Helper()
	if !slices.Equal(got, want) {
		t.Fatalf("%s of %v = %v, want %v", call, args, got, want)
	}
}

// applied is what Apply returns.
type applied struct {
	w      api.Word
	signal int
	e      api.Errno
}

// checkApply compares the results of Apply.
func checkApply(t *testing.T, w api.Word, k api.PulseKind, want applied) {
	t.Helper()
	var got applied
	got.w, got.signal, got.e = Apply(w, k)
	check(t, got, want, "Apply", w, k)
}

// queue returns a queue of one kind of pulses.
func queue(k api.PulseKind, at ...int) []api.Pulse {
	var l []api.Pulse
	for _, a := range at {
		l = append(l, api.Pulse{At: a, Kind: k})
	}
	return l
}

// TestExamples tests the rows of the chapter's section Examples.
func TestExamples(t *testing.T) {
	for _, x := range []struct {
		w    api.Word
		k    api.PulseKind
		want applied
	}{
		{5, api.PulsePlus, applied{6, 0, api.OK}},
		{16383, api.PulsePlus, applied{0, 1, api.OK}},
		{32767, api.PulsePlus, applied{1, 0, api.OK}},
		{5, api.PulseMinus, applied{4, 0, api.OK}},
		{16384, api.PulseMinus, applied{32767, -1, api.OK}},
		{0, api.PulseMinus, applied{32766, 0, api.OK}},
		{32767, api.PulsePlusTwos, applied{0, 0, api.OK}},
		{0, api.PulseMinusTwos, applied{32767, 0, api.OK}},
		{1, api.PulseDiminish, applied{0, 1, api.OK}},
		{32766, api.PulseDiminish, applied{32767, -1, api.OK}},
		{0, api.PulseDiminish, applied{0, 0, api.OK}},
		{20000, api.PulseShift0, applied{7232, 1, api.OK}},
		{3, api.PulseShift1, applied{7, 0, api.OK}},
		{3, 8, applied{0, 0, api.ErrArg}},
	} {
		checkApply(t, x.w, x.k, x.want)
	}
	checkNext(t, queue(api.PulsePlus, 31, 26, 31, 26), 1, true)
	checkNext(t, nil, 0, false)
	checkAfter(t, 21, api.PulsePlus, 1, queue(api.PulsePlus, 20), 0)
	checkAfter(t, 23, api.PulsePlus, 1, nil, 4)
	checkAfter(t, 25, api.PulseDiminish, 0, nil, 1)
	checkAfter(t, 25, api.PulseDiminish, 1, nil, 0)
}

// wordValue returns the value of a word by DOC.md's section Terms.
func wordValue(w int) int {
	if w <= 16383 {
		return w
	}
	return w - 32767
}

// model returns the effect of a pulse by the chapter's table, for a word of 15 bits, with onescomp.Add written out.
func model(w int, k api.PulseKind) (int, int) {
	turn := func(n int) int { return (n + 32768) % 32768 }
	around := func(n int) int { return n&32767 + n>>15 }
	top := 0
	if w > 16383 {
		top = 1
	}
	switch k {
	case api.PulsePlus:
		if w == 16383 {
			return 0, 1
		}
		return around(w + 1), 0
	case api.PulseMinus:
		if w == 16384 {
			return 32767, -1
		}
		return around(w + 32766), 0
	case api.PulsePlusTwos:
		return turn(w + 1), 0
	case api.PulseMinusTwos:
		return turn(w - 1), 0
	case api.PulseShift0:
		return turn(2 * w), top
	case api.PulseShift1:
		return turn(2*w + 1), top
	}
	switch {
	case w >= 1 && w <= 16383:
		return w - 1, 1
	case w >= 16384 && w <= 32766:
		return w + 1, -1
	}
	return w, 0
}

// TestApplyEdges tests P6.1: each kind with the words at the ends of the signs.
func TestApplyEdges(t *testing.T) {
	words := [6]api.Word{0, 1, 16383, 16384, 32766, 32767}
	for _, x := range []struct {
		k      api.PulseKind
		want   [6]api.Word
		signal [6]int
	}{
		{api.PulsePlus, [6]api.Word{1, 2, 0, 16385, 32767, 1}, [6]int{2: 1}},
		{api.PulseMinus, [6]api.Word{32766, 32767, 16382, 32767, 32765, 32766}, [6]int{3: -1}},
		{api.PulsePlusTwos, [6]api.Word{1, 2, 16384, 16385, 32767, 0}, [6]int{}},
		{api.PulseMinusTwos, [6]api.Word{32767, 0, 16382, 16383, 32765, 32766}, [6]int{}},
		{api.PulseDiminish, [6]api.Word{0, 0, 16382, 16385, 32767, 32767}, [6]int{0, 1, 1, -1, -1, 0}},
		{api.PulseShift0, [6]api.Word{0, 2, 32766, 0, 32764, 32766}, [6]int{0, 0, 0, 1, 1, 1}},
		{api.PulseShift1, [6]api.Word{1, 3, 32767, 1, 32765, 32767}, [6]int{0, 0, 0, 1, 1, 1}},
	} {
		for i, w := range words {
			checkApply(t, w, x.k, applied{x.want[i], x.signal[i], api.OK})
			checkApply(t, w|32768, x.k, applied{x.want[i], x.signal[i], api.OK})
		}
	}
}

// TestApply tests P6.1: all words, also those above MaxWord, with all kinds.
func TestApply(t *testing.T) {
	for n := range 1 << 16 {
		for k := api.PulsePlus; k <= api.PulseShift1; k++ {
			w, signal := model(n%32768, k)
			checkApply(t, api.Word(n), k, applied{api.Word(w), signal, api.OK})
		}
	}
	for k := range 256 {
		if k >= 1 && k <= 7 {
			continue
		}
		for _, w := range []api.Word{0, 1, 16383, 16384, 32767, 65535} {
			checkApply(t, w, api.PulseKind(k), applied{0, 0, api.ErrArg})
		}
	}
}

// checkAdd compares the results of Add, and that the queue before is as it was.
func checkAdd(t *testing.T, l []api.Pulse, p api.Pulse, code api.Errno) {
	t.Helper()
	before := slices.Clone(l)
	got, e := Add(l, p)
	check(t, e, code, "error of Add", l, p)
	var want []api.Pulse
	if code == api.OK {
		want = append(slices.Clone(before), p)
	}
	checkQueue(t, got, want, "Add", l, p)
	checkQueue(t, l, before, "the queue passed to Add", p)
}

// TestAdd tests P6.2: addresses, kinds and lengths of the queue.
func TestAdd(t *testing.T) {
	plus := func(at int) api.Pulse { return api.Pulse{At: at, Kind: api.PulsePlus} }
	for at := -50; at < 100; at++ {
		code := api.ErrRange
		if at >= 20 && at <= 47 {
			code = api.OK
		}
		checkAdd(t, nil, plus(at), code)
		checkAdd(t, queue(api.PulseMinus, 47, 20), plus(at), code)
	}
	for _, at := range []int{math.MinInt, math.MaxInt, 1<<32 + 20, 1<<16 + 20, 1<<8 + 20, -20} {
		checkAdd(t, nil, plus(at), api.ErrRange)
	}
	for k := range 256 {
		code := api.ErrArg
		if k >= 1 && k <= 7 {
			code = api.OK
		}
		checkAdd(t, nil, api.Pulse{At: 30, Kind: api.PulseKind(k)}, code)
	}
	for n := range 80 {
		code := api.OK
		if n >= api.MaxPulses {
			code = api.ErrFull
		}
		checkAdd(t, make([]api.Pulse, n), plus(20), code)
	}
	checkAdd(t, make([]api.Pulse, 1000), plus(47), api.ErrFull)
	checkAdd(t, make([]api.Pulse, 0, 10), plus(47), api.OK)
}

// TestAddOrder tests P6.2: which of several errors is returned, and that the pulses of the queue are not examined.
func TestAddOrder(t *testing.T) {
	full := make([]api.Pulse, api.MaxPulses)
	checkAdd(t, full, api.Pulse{At: 19, Kind: 0}, api.ErrRange)
	checkAdd(t, full, api.Pulse{At: 48, Kind: 1}, api.ErrRange)
	checkAdd(t, nil, api.Pulse{At: 48, Kind: 8}, api.ErrRange)
	checkAdd(t, full, api.Pulse{At: 20, Kind: 0}, api.ErrArg)
	checkAdd(t, full, api.Pulse{At: 47, Kind: 8}, api.ErrArg)
	checkAdd(t, full, api.Pulse{At: 47, Kind: 7}, api.ErrFull)
	checkAdd(t, []api.Pulse{{At: -1, Kind: 0}, {At: 48, Kind: 9}}, api.Pulse{At: 47, Kind: 7}, api.OK)
}

// TestAddMemory tests P6.2 with DOC.md's rule 5: the result shares no memory with the queue, nor is its spare capacity written to.
func TestAddMemory(t *testing.T) {
	room := queue(api.PulseMinus, 30, 31, 32)
	l := room[:2]
	m, _ := Add(l, api.Pulse{At: 40, Kind: api.PulsePlus})
	checkQueue(t, room, queue(api.PulseMinus, 30, 31, 32), "the spare capacity after Add")
	m[0].At = 45
	checkQueue(t, room, queue(api.PulseMinus, 30, 31, 32), "the queue after a change of the result of Add")
	n, _ := Add(m[:0:0], api.Pulse{At: 40, Kind: api.PulsePlus})
	checkQueue(t, n, queue(api.PulsePlus, 40), "Add to an empty queue")
}

// checkNext compares the results of Next.
func checkNext(t *testing.T, l []api.Pulse, index int, ok bool) {
	t.Helper()
	i, found := Next(l)
	check(t, i, index, "index of Next", l)
	check(t, found, ok, "Next", l)
}

// firstLeast returns the index of the first pulse with the least address.
func firstLeast(l []api.Pulse) int {
	for i, p := range l {
		least := true
		for _, q := range l {
			least = least && p.At <= q.At
		}
		if least {
			return i
		}
	}
	return 0
}

// queues calls f for all queues of up to n pulses with these addresses and kinds.
func queues(n int, at []int, kinds []api.PulseKind, f func(l []api.Pulse)) {
	var grow func(l []api.Pulse)
	grow = func(l []api.Pulse) {
		f(slices.Clone(l))
		if len(l) == n {
			return
		}
		for _, a := range at {
			for _, k := range kinds {
				grow(append(slices.Clone(l), api.Pulse{At: a, Kind: k}))
			}
		}
	}
	grow(nil)
}

// TestNext tests P6.3: addresses alone decide, whatever they are.
func TestNext(t *testing.T) {
	checkNext(t, []api.Pulse{}, 0, false)
	checkNext(t, queue(0, 47), 0, true)
	checkNext(t, queue(1, 30, 30, 30), 0, true)
	checkNext(t, queue(1, 22, 21, 20), 2, true)
	checkNext(t, queue(9, 22, 0, -7, -7, 500), 2, true)
	checkNext(t, queue(1, math.MaxInt, math.MinInt, math.MaxInt), 1, true)
	checkNext(t, queue(1, 0, math.MinInt, -1), 1, true)
	checkNext(t, queue(1, 1<<32, 1<<31, 20), 2, true)
	checkNext(t, []api.Pulse{{At: 25, Kind: 7}, {At: 25, Kind: 0}, {At: 24, Kind: 7}, {At: 24, Kind: 1}}, 2, true)
	queues(4, []int{20, 21, 34, 47}, []api.PulseKind{1, 5}, func(l []api.Pulse) {
		checkNext(t, l, firstLeast(l), len(l) > 0)
	})
}

// served is what Serve returns beside the queue.
type served struct {
	c      api.Cell
	signal int
	e      api.Errno
}

// checkServe compares the results of Serve, and that its arguments are as they were.
func checkServe(t *testing.T, l []api.Pulse, erasable []api.Word, left []api.Pulse, want served) {
	t.Helper()
	pulses, words := slices.Clone(l), slices.Clone(erasable)
	var got served
	var m []api.Pulse
	m, got.c, got.signal, got.e = Serve(l, erasable)
	check(t, got, want, "Serve", l, len(erasable))
	checkQueue(t, m, left, "queue of Serve", l, len(erasable))
	checkQueue(t, l, pulses, "the queue passed to Serve")
	if !slices.Equal(erasable, words) {
		t.Fatalf("Serve of %v changed the words", l)
	}
}

// words returns n erasable words, of which those at the addresses of counters differ from each other.
func words(n int) []api.Word {
	l := make([]api.Word, n)
	for i := range l {
		l[i] = api.Word(i * 1000 % 32768)
	}
	return l
}

// TestServeErrors tests P6.4: the errors and their order.
func TestServeErrors(t *testing.T) {
	checkServe(t, nil, nil, nil, served{e: api.ErrState})
	checkServe(t, []api.Pulse{}, words(2048), nil, served{e: api.ErrState})
	for _, at := range []int{-1, math.MinInt, 48, 47, 2048, math.MaxInt, 1<<32 + 20} {
		checkServe(t, queue(api.PulsePlus, at), words(47), nil, served{e: api.ErrShort})
		checkServe(t, queue(api.PulseNone, at), words(47), nil, served{e: api.ErrShort})
	}
	checkServe(t, queue(api.PulsePlus, 20), nil, nil, served{e: api.ErrShort})
	checkServe(t, queue(api.PulsePlus, 20, 30), words(20), nil, served{e: api.ErrShort})
	checkServe(t, queue(api.PulsePlus, 30, -1), words(48), nil, served{e: api.ErrShort})
	for k := range 256 {
		if k < 1 || k > 7 {
			checkServe(t, queue(api.PulseKind(k), 20, 30), words(48), nil, served{e: api.ErrArg})
		}
	}
	checkServe(t, []api.Pulse{{At: 30, Kind: api.PulsePlus}, {At: 21, Kind: 8}}, words(48), nil, served{e: api.ErrArg})
}

// TestServe tests P6.4: one pulse is served, the others stay in their order and are not examined.
func TestServe(t *testing.T) {
	l := words(48)
	checkServe(t, queue(api.PulsePlus, 20), l[:21], nil, served{api.Cell{At: 20, W: 20001}, 0, api.OK})
	checkServe(t, queue(api.PulseMinus, 47), l, nil, served{api.Cell{At: 47, W: 14231}, 0, api.OK})
	checkServe(t, queue(api.PulsePlus, 31, 21, 31, 21), l, queue(api.PulsePlus, 31, 31, 21), served{api.Cell{At: 21, W: 21001}, 0, api.OK})
	checkServe(t, queue(api.PulseShift1, 22, 40), l, queue(api.PulseShift1, 40), served{api.Cell{At: 22, W: 11233}, 1, api.OK})
	checkServe(t, queue(api.PulseDiminish, 40, 23), l, queue(api.PulseDiminish, 40), served{api.Cell{At: 23, W: 23001}, -1, api.OK})
	mixed := []api.Pulse{{At: 500, Kind: 0}, {At: 30, Kind: api.PulseShift0}, {At: 47, Kind: 9}, {At: 30, Kind: 0}}
	left := []api.Pulse{{At: 500, Kind: 0}, {At: 47, Kind: 9}, {At: 30, Kind: 0}}
	checkServe(t, mixed, l[:31], left, served{api.Cell{At: 30, W: 60000 % 32768}, 1, api.OK})
	checkServe(t, queue(api.PulsePlus, 5), l, nil, served{api.Cell{At: 5, W: 5001}, 0, api.OK})
	checkServe(t, queue(api.PulsePlus, 0), []api.Word{16383}, nil, served{api.Cell{At: 0, W: 0}, 1, api.OK})
	checkServe(t, queue(api.PulsePlus, 1), []api.Word{0, 16383 + 32768}, nil, served{api.Cell{At: 1, W: 0}, 1, api.OK})
	checkServe(t, make([]api.Pulse, 100), nil, nil, served{e: api.ErrShort})
	long := queue(api.PulsePlus, slices.Repeat([]int{33}, 100)...)
	checkServe(t, long, l, long[1:], served{api.Cell{At: 33, W: 33000 - 32768 + 1}, 0, api.OK})
}

// TestServeMemory tests P6.4 with DOC.md's rule 5: the queue of the result shares no memory with the one passed.
func TestServeMemory(t *testing.T) {
	for _, at := range [][]int{{20, 30, 40}, {30, 20, 40}, {40, 30, 20}} {
		l := queue(api.PulsePlus, at...)
		m, _, _, _ := Serve(l, words(48))
		m = append(m[:2], api.Pulse{At: 1, Kind: 1})
		m[0], m[1] = api.Pulse{}, api.Pulse{}
		checkQueue(t, l, queue(api.PulsePlus, at...), "the queue after a change of the result of Serve")
	}
}

// checkAfter compares the results of After.
func checkAfter(t *testing.T, at int, k api.PulseKind, signal int, want []api.Pulse, rupt int) {
	t.Helper()
	l, n := After(at, k, signal)
	checkQueue(t, l, want, "After", at, k, signal)
	check(t, n, rupt, "interrupt of After", at, k, signal)
}

// TestAfter tests P6.5: all counters and kinds with all signals, and numbers that are neither.
func TestAfter(t *testing.T) {
	rupts := map[int]int{22: 3, 23: 4, 24: 2, 37: 7}
	signals := []int{-1, 0, 1, 2, -2, 3, 1<<32 + 1, math.MinInt, math.MaxInt}
	for at := -60; at < 100; at++ {
		for k := range 256 {
			for _, signal := range signals {
				var l []api.Pulse
				rupt := 0
				if signal == 1 {
					rupt = rupts[at]
				}
				if signal == 1 && at == 21 {
					l = queue(api.PulsePlus, 20)
				}
				if signal == 0 && at == 25 && k == 5 {
					rupt = 1
				}
				checkAfter(t, at, api.PulseKind(k), signal, l, rupt)
			}
		}
	}
	for _, at := range []int{math.MinInt, math.MaxInt, 1<<32 + 21, 1<<32 + 22, 1<<8 + 37} {
		checkAfter(t, at, api.PulsePlus, 1, nil, 0)
	}
	checkAfter(t, 1<<32+25, api.PulseDiminish, 0, nil, 0)
}

// TestAfterMemory tests P6.5 with DOC.md's rule 5: each result is new.
func TestAfterMemory(t *testing.T) {
	l, _ := After(21, api.PulsePlus, 1)
	l[0] = api.Pulse{At: 47, Kind: api.PulseMinus}
	checkAfter(t, 21, api.PulsePlus, 1, queue(api.PulsePlus, 20), 0)
}

// TestTotal tests P6.6.
func TestTotal(t *testing.T) {
	l := append(queue(api.PulsePlus, 31, 21, 31, 31, 0, math.MinInt), queue(api.PulseMinus, 31, 21, 21, -3, 1<<32+31)...)
	for k := range 256 {
		if k != int(api.PulsePlus) && k != int(api.PulseMinus) {
			l = append(l, queue(api.PulseKind(k), 31, 21, 40)...)
		}
	}
	for at, want := range map[int]int{31: 2, 21: -1, 0: 1, -3: -1, 40: 0, 47: 0, 1<<32 + 31: -1, math.MinInt: 1, math.MaxInt: 0} {
		check(t, Total(l, at), want, "Total", at)
		check(t, Total(nil, at), 0, "Total of none", at)
	}
	check(t, Total(queue(api.PulseMinus, slices.Repeat([]int{20}, 1000)...), 20), -1000, "Total")
}

// serveAll serves a queue until it is empty: the words afterwards, the sum of the signals of each counter, and the pulses in the order in which they were served.
func serveAll(t *testing.T, l []api.Pulse, erasable []api.Word) ([]api.Word, map[int]int, []api.Pulse) {
	t.Helper()
	after, signals := slices.Clone(erasable), map[int]int{}
	var order []api.Pulse
	for len(l) > 0 {
		i, _ := Next(l)
		order = append(order, l[i])
		m, c, signal, e := Serve(l, after)
		check(t, e, api.OK, "error of Serve", l)
		check(t, len(m), len(l)-1, "length of Serve", l)
		after[c.At] = c.W
		signals[c.At] += signal
		l = m
	}
	return after, signals, order
}

// pulsesOf returns the pulses of one counter, in their order.
func pulsesOf(l []api.Pulse, at int) []api.Pulse {
	return slices.DeleteFunc(slices.Clone(l), func(p api.Pulse) bool { return p.At != at })
}

// TestServeAll tests P6.7: the growth of the counters, the other words, and the order of each counter's pulses.
func TestServeAll(t *testing.T) {
	starts := []api.Word{0, 1, 2, 16381, 16382, 16383, 16384, 16385, 16386, 32765, 32766, 32767}
	for _, start := range starts {
		erasable := words(48)
		for _, at := range []int{20, 31, 47} {
			erasable[at] = start
		}
		queues(4, []int{47, 20, 31}, []api.PulseKind{api.PulsePlus, api.PulseMinus}, func(l []api.Pulse) {
			after, signals, order := serveAll(t, l, erasable)
			for at := range erasable {
				checkQueue(t, pulsesOf(order, at), pulsesOf(l, at), "order of the pulses", l, at)
				if len(pulsesOf(l, at)) == 0 {
					check(t, after[at], erasable[at], "word without pulses", l, at)
				}
				growth := wordValue(int(after[at])) + 16384*signals[at] - wordValue(int(erasable[at]))
				check(t, growth, Total(l, at), "growth", start, l, at)
			}
		})
	}
}

// TestServeAllKinds tests P6.7: the pulses of other kinds than plus and minus take the same order, and change only their own counter.
func TestServeAllKinds(t *testing.T) {
	erasable := words(48)
	all := []api.PulseKind{1, 2, 3, 4, 5, 6, 7}
	queues(3, []int{22, 20, 40}, all, func(l []api.Pulse) {
		after, _, order := serveAll(t, l, erasable)
		for at := range erasable {
			own := pulsesOf(l, at)
			checkQueue(t, pulsesOf(order, at), own, "order of the pulses", l, at)
			w := int(erasable[at])
			for _, p := range own {
				w, _ = model(w, p.Kind)
			}
			check(t, int(after[at]), w, "word", l, at)
		}
	})
}
