package machine

import (
	"slices"
	"testing"

	"perilune/api"
)

// handler returns a machine whose interrupts 5 and 6 go on at 3072 with these instructions, and whose other instructions are CA 100.
func handler(t *testing.T, tick int, words ...api.Word) *Machine {
	t.Helper()
	return build(t, tick, loop(2200, 500), place(2048, code("TCF", 2200)),
		place(2068, code("TCF", 3072)), place(2072, code("TCF", 3072)), place(3072, words...))
}

// endless returns the instructions of an interrupt that never ends: they take 3 cycles, of which the first two are one instruction.
func endless() []api.Word { return []api.Word{code("INCR", 60), code("TCF", 3072)} }

// enter lets the interrupt n begin.
func enter(t *testing.T, m *Machine, n int) {
	t.Helper()
	ok(t, m.Interrupt(n))
	for range 10 {
		if s, _ := m.Cycle(); s == entered(n) {
			return
		}
	}
	t.Fatalf("the interrupt %d does not begin", n)
}

// checkLock checks that the interrupt in progress is ended in its cycle 1024, of which so many are over, and not before.
func checkLock(t *testing.T, m *Machine, over int) {
	t.Helper()
	n, s, e := m.Run(2000)
	ok(t, e)
	check(t, n, 1024-over, "number of cycles")
	check(t, s, restarted(api.CauseLock), "status")
}

// TestLock tests P8.2: an interrupt that never ends, whenever it begins, also after others, and that the restart ends its activity without effect.
func TestLock(t *testing.T) {
	for first := range 12 {
		m := handler(t, 4096, endless()...)
		run(t, m, first)
		enter(t, m, 5)
		checkLock(t, m, 0)
		checkPeek(t, m, 60, 341) // the cycles are one of TCF, 341 times 3
		check(t, m.Regs(), api.Regs{Z: 2048}, "Regs")
		run(t, m, first)
		enter(t, m, 6)
		checkLock(t, m, 0)
		checkPeek(t, m, 60, 682)
		_, _, restarts := m.Counts()
		check(t, restarts, 2, "restarts")
	}
}

// TestLockActivity tests P8.2: the restart in each cycle of an instruction.
func TestLockActivity(t *testing.T) {
	for before := range 3 {
		words := slices.Concat(filled(before, code("RELINT", 0)), []api.Word{code("INCR", 60), code("TCF", 3072+before)})
		m := handler(t, 4096, words...)
		enter(t, m, 5)
		run(t, m, 1023)
		loops := 1022 - before // the cycles after TCF
		checkPeek(t, m, 60, api.Word((loops+1)/3))
		c := m.Copy()
		cycles(t, m, restarted(api.CauseLock))
		checkPeek(t, m, 60, api.Word((loops+1)/3))
		request(t, c, plus(30)...)
		words, queue := c.Words(), c.Waiting()
		cycles(t, c, restarted(api.CauseLock))
		checkList(t, c.Words(), words, "Words after the restart", before)
		checkList(t, c.Waiting(), queue, "Waiting after the restart", before)
		cycles(t, c, pulsed(30), done("TCF"))
	}
}

// TestLockPulses tests P8.2: the cycles of counter requests count, and a tick in the last cycle requests its pulses.
func TestLockPulses(t *testing.T) {
	m := handler(t, 4096, endless()...)
	enter(t, m, 5)
	request(t, m, plus(slices.Repeat([]int{40}, 64)...)...)
	run(t, m, 500)
	request(t, m, plus(slices.Repeat([]int{40}, 64)...)...)
	checkLock(t, m, 500)
	checkPeek(t, m, 40, 128)

	m = handler(t, 1028, endless()...)
	ok(t, m.Interrupt(5))
	cycles(t, m, fetch(), fetch(), entered(5))
	run(t, m, 1023)
	cycles(t, m, restarted(api.CauseLock))
	checkList(t, m.Waiting(), nil, "Waiting")
	m = handler(t, 1027, endless()...)
	ok(t, m.Interrupt(5))
	cycles(t, m, fetch(), fetch(), entered(5))
	run(t, m, 1023)
	cycles(t, m, restarted(api.CauseLock))
	checkList(t, m.Waiting(), plus(21, 22, 23, 24), "Waiting")
	cycles(t, m, pulsed(21), pulsed(22), pulsed(23), pulsed(24), done("TCF"))
}

// TestLockInTime tests P8.2: RESUME in the last cycle but one, and in the last one, which ends it without effect; and the counts of interrupts that follow each other.
func TestLockInTime(t *testing.T) {
	body := append(filled(510, code("CA", 100)), code("RESUME", 0))
	m := handler(t, 4096, body...)
	enter(t, m, 5)
	run(t, m, 1022)
	check(t, m.Regs().Serving, true, "Regs: Serving")
	ok(t, m.Interrupt(6))
	cycles(t, m, done("RESUME"))
	check(t, m.Regs().Serving, false, "Regs: Serving")
	cycles(t, m, done("TCF"), fetch(), fetch(), entered(6))
	run(t, m, 1022)
	cycles(t, m, done("RESUME"))
	run(t, m, 1000)
	m = handler(t, 4096, append([]api.Word{code("RELINT", 0)}, body...)...)
	enter(t, m, 5)
	run(t, m, 1023)
	cycles(t, m, restarted(api.CauseLock))
	check(t, m.Regs().Held, false, "Regs: Held")
}

// TestLockRestart tests P8.2: a restart in an interrupt makes the count 0.
func TestLockRestart(t *testing.T) {
	for _, n := range []int{1, 500, 1022, 1023} {
		m := handler(t, 4096, endless()...)
		enter(t, m, 5)
		run(t, m, n)
		ok(t, m.Restart())
		enter(t, m, 5)
		checkLock(t, m, 0)
	}
}

// jumps returns n transfers of control, from the address at on, of which each goes to the next one; every third one is a TC.
func jumps(at, n int) part {
	p := part{at: at}
	for i := range n {
		name := "TCF"
		if i%3 == 1 {
			name = "TC"
		}
		p.words = append(p.words, code(name, at+i+1))
	}
	return p
}

// TestTrap tests P8.2: 63 transfers of control are allowed, and the 64th takes effect before the restart.
func TestTrap(t *testing.T) {
	m := build(t, 4096, jumps(2048, 63), place(2111, code("TC", 3000)))
	run(t, m, 63)
	checkCounts(t, m, [3]int{63, 63, 0})
	check(t, m.Regs().Z, 2111, "Regs: Z")
	cycles(t, m, restarted(api.CauseTrap))
	check(t, m.Regs(), api.Regs{Z: 2048, Q: 2112}, "Regs")
	checkCounts(t, m, [3]int{64, 64, 1})
	run(t, m, 63)
	cycles(t, m, restarted(api.CauseTrap))
	checkCounts(t, m, [3]int{128, 128, 2})
}

// TestTrapReturns tests P8.2: a TC that returns from a subroutine counts, and so does the instruction that it holds; the restart ends the hold.
func TestTrapReturns(t *testing.T) {
	m := build(t, 4096, jumps(2048, 61), place(2109, code("TC", 3000), code("CA", 100)), place(3000, code("TC", 2)))
	run(t, m, 61)
	cycles(t, m, done("TC"), done("TC"), restarted(api.CauseTrap))
	check(t, m.Regs(), api.Regs{Z: 2048, Q: 3}, "Regs")

	m = build(t, 4096, jumps(2048, 62), place(2110, code("TC", 3000), code("CA", 100)), place(3000, code("TC", 2)))
	run(t, m, 63)
	cycles(t, m, restarted(api.CauseTrap))
	check(t, m.Regs(), api.Regs{Z: 2048, Q: 3001}, "Regs")
}

// TestTrapOthers tests P8.2: each other instruction makes the count 0.
func TestTrapOthers(t *testing.T) {
	for _, x := range []struct {
		words  []api.Word
		cycles int
		next   int // where the program goes on
	}{
		{[]api.Word{code("CA", 100)}, 2, 2112},
		{[]api.Word{code("TS", 100)}, 2, 2112},
		{[]api.Word{code("INHINT", 0)}, 1, 2112},
		{[]api.Word{code("RELINT", 0)}, 1, 2112},
		{[]api.Word{code("CCS", 100)}, 2, 2113},
		{[]api.Word{code("EXTEND", 0), code("BZF", 2300)}, 2, 2300},
		{[]api.Word{code("EXTEND", 0), code("BZMF", 2300)}, 2, 2300},
		{[]api.Word{code("EXTEND", 0), code("EDRUPT", 0)}, 4, 2113},
	} {
		m := build(t, 4096, jumps(2048, 63), place(2111, x.words...), jumps(x.next, 64))
		run(t, m, 63+x.cycles)
		check(t, m.Regs().Z, x.next, "Regs: Z", x)
		run(t, m, 63)
		cycles(t, m, restarted(api.CauseTrap))
	}
}

// TestTrapPulses tests P8.2: counter requests between the transfers of control do not make the count 0.
func TestTrapPulses(t *testing.T) {
	m := build(t, 16, jumps(2048, 64))
	var transfers, pulses int
	for transfers < 63 && pulses < 100 {
		s, _ := m.Cycle()
		if s.Kind == api.StatusDone {
			transfers++
		} else {
			check(t, s.Kind, api.StatusPulse, "kind of the status")
			pulses++
		}
	}
	check(t, pulses, 16, "number of pulses")
	request(t, m, plus(40)...)
	cycles(t, m, pulsed(21), pulsed(22), pulsed(23), pulsed(24), pulsed(40), restarted(api.CauseTrap))
}

// TestTrapInterrupt tests P8.2: the beginning of an interrupt makes the count 0, and its end does so as another instruction.
func TestTrapInterrupt(t *testing.T) {
	m := build(t, 4096, jumps(2200, 63), place(2048, code("TCF", 2200)), place(2068, code("TCF", 3072)), jumps(3072, 64))
	run(t, m, 63)
	ok(t, m.Interrupt(5))
	cycles(t, m, fetch(), fetch(), entered(5))
	run(t, m, 63)
	cycles(t, m, restarted(api.CauseTrap))

	m = build(t, 4096, place(2048, code("TCF", 2200)), jumps(2200, 200), place(2068, code("RESUME", 0)))
	run(t, m, 63)
	ok(t, m.Interrupt(5))
	cycles(t, m, fetch(), fetch(), entered(5), fetch(), done("RESUME"))
	run(t, m, 63)
	cycles(t, m, restarted(api.CauseTrap))
}

// TestTrapRestart tests P8.2: a restart makes the count 0, whatever its cause.
func TestTrapRestart(t *testing.T) {
	m := build(t, 4096, jumps(2048, 64))
	run(t, m, 63)
	ok(t, m.Restart())
	run(t, m, 63)
	request(t, m, plus(40)...)
	spoil(t, m, api.SpaceErasable, 40, 0)
	cycles(t, m, restarted(api.CauseParity))
	spoil(t, m, api.SpaceErasable, 40, 0)
	cycles(t, m, pulsed(40))
	run(t, m, 63)
	spoil(t, m, api.SpaceFixed, 2111, 0)
	cycles(t, m, restarted(api.CauseParity))
	run(t, m, 63)
	spoil(t, m, api.SpaceFixed, 2111, 0)
	cycles(t, m, restarted(api.CauseTrap))
	run(t, m, 63)
	cycles(t, m, restarted(api.CauseTrap))
}
