package machine

import (
	"perilune/api"
	"perilune/cpu"
	"perilune/interrupt"
	"perilune/onescomp"
)

const ruptCycles = 3 // memory cycles of the beginning of an interrupt

// The instructions that the trap count counts, by their Codes in chapter 4.
const (
	codeTC  api.OpCode = 1
	codeTCF api.OpCode = 6
)

// activity is what takes a machine several memory cycles. It never changes, so that copies of a machine may share it.
type activity interface {
	// cycles returns how many memory cycles it takes.
	cycles() int
	// end takes effect on the machine, and returns the status of its last memory cycle.
	end(m *Machine) api.Status
}

// instruction is an instruction in progress: the registers after it, and its other effects.
type instruction struct {
	regs api.Regs
	done api.Done
}

// entry is the beginning of an interrupt: the registers after it, the cells to be written, and the interrupt's number.
type entry struct {
	regs  api.Regs
	cells []api.Cell
	n     int
}

func (i instruction) cycles() int { return i.done.Cycles }

func (entry) cycles() int { return ruptCycles }

func (i instruction) end(m *Machine) api.Status {
	m.regs = i.regs
	m.erasable.write(i.done.Cells...)
	for _, c := range i.done.Outs {
		m.channels[c.At] = c.W
	}
	m.doneCount++
	if m.countTrap(i.done.Op) {
		return m.restart(api.CauseTrap)
	}
	return api.Status{Kind: api.StatusDone, Op: i.done.Op}
}

func (e entry) end(m *Machine) api.Status {
	m.regs = e.regs
	m.erasable.write(e.cells...)
	m.lockCount, m.trapCount = 0, 0
	return api.Status{Kind: api.StatusRupt, N: e.n}
}

// countTrap counts a completed instruction, and reports whether too many in a row have transferred control.
func (m *Machine) countTrap(code api.OpCode) bool {
	if code != codeTC && code != codeTCF {
		m.trapCount = 0
		return false
	}
	m.trapCount++
	return m.trapCount >= api.TrapLimit
}

// begin begins the next activity. It returns the cause of a restart if that fails, or noCause.
func (m *Machine) begin() int {
	next, cause := m.nextActivity()
	if cause != noCause {
		return cause
	}
	m.activity, m.left = next, next.cycles()
	return noCause
}

// nextActivity returns the interrupt that begins, or the next instruction; or the cause of a restart.
func (m *Machine) nextActivity() (activity, int) {
	if _, ok := interrupt.Choose(m.rupts, m.regs); ok {
		return m.nextEntry()
	}
	return m.nextInstruction()
}

// nextEntry returns the beginning of the chosen interrupt, which is then not pending any more; or the cause of a restart.
func (m *Machine) nextEntry() (activity, int) {
	x, reads, e := cpu.Load(m.regs, m.view(), m.regs.Z)
	if cause := m.fault(reads, e); cause != noCause {
		return nil, cause
	}
	// No error is possible: an interrupt is chosen, and the registers are valid.
	regs, rupts, cells, n, _ := interrupt.Enter(m.regs, m.rupts, onescomp.Correct(x))
	m.rupts = rupts
	return entry{regs: regs, cells: cells, n: n}, noCause
}

// nextInstruction returns the next instruction, or the cause of a restart.
func (m *Machine) nextInstruction() (activity, int) {
	regs, done, e := cpu.Step(m.regs, m.view())
	if cause := m.fault(done.Reads, e); cause != noCause {
		return nil, cause
	}
	return instruction{regs: regs, done: done}, noCause
}

// fault returns the cause of a restart after words were read with that error, or noCause.
func (m *Machine) fault(reads []api.Spot, e api.Errno) int {
	if e != api.OK { // the registers are always valid: only a word can be missing
		return api.CauseBank
	}
	for _, s := range reads {
		if !m.storeAt(s.Space).isRight(s.At) {
			return api.CauseParity
		}
	}
	return noCause
}

// storeAt returns the memory of a space.
func (m *Machine) storeAt(s api.Space) store {
	if s == api.SpaceErasable {
		return m.erasable
	}
	return m.fixed
}
