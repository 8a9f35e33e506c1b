package machine

import (
	"perilune/api"
	"perilune/counter"
	"perilune/interrupt"
)

const noCause = 0 // no restart

// The counters that each tick advances: TIME1, TIME3, TIME4 and TIME5.
const (
	firstTimer = 21
	lastTimer  = 24
)

// cycle performs one memory cycle.
func (m *Machine) cycle() api.Status {
	m.countCycle()
	if m.countLock() {
		return m.restart(api.CauseLock)
	}
	if m.activity == nil && len(m.queue) > 0 {
		return m.serve()
	}
	if m.activity == nil {
		if cause := m.begin(); cause != noCause {
			return m.restart(cause)
		}
	}
	return m.proceed()
}

// countCycle counts a memory cycle, and requests the pulses of the timers when a tick is over.
func (m *Machine) countCycle() {
	m.cycleCount++
	if m.cycleCount%m.tick != 0 {
		return
	}
	for at := firstTimer; at <= lastTimer; at++ {
		m.request(api.Pulse{At: at, Kind: api.PulsePlus})
	}
}

// countLock counts a memory cycle of an interrupt, and reports whether the interrupt lasts too long.
func (m *Machine) countLock() bool {
	if !m.regs.Serving {
		m.lockCount = 0
		return false
	}
	m.lockCount++
	return m.lockCount >= api.LockLimit
}

// request requests pulses; those that the queue cannot take are lost.
func (m *Machine) request(l ...api.Pulse) {
	for _, p := range l {
		if queue, e := counter.Add(m.queue, p); e == api.OK {
			m.queue = queue
		}
	}
}

// serve serves the next counter request. If the counter's parity is wrong, the request stays in the queue: a restart loses no pulse.
func (m *Machine) serve() api.Status {
	next, _ := counter.Next(m.queue)
	p := m.queue[next]
	if !m.erasable.isRight(p.At) {
		return m.restart(api.CauseParity)
	}
	queue, cell, signal, _ := counter.Serve(m.queue, m.erasable.words)
	m.queue = queue
	m.erasable.write(cell)
	pulses, rupt := counter.After(p.At, p.Kind, signal)
	m.request(pulses...)
	if rupts, e := interrupt.Request(m.rupts, rupt); e == api.OK { // 0 is no interrupt
		m.rupts = rupts
	}
	return api.Status{Kind: api.StatusPulse, N: p.At}
}

// proceed uses a cycle of the activity.
func (m *Machine) proceed() api.Status {
	m.left--
	if m.left > 0 {
		return api.Status{Kind: api.StatusFetch}
	}
	ended := m.activity
	m.activity = nil
	return ended.end(m)
}

// restart restarts the machine.
func (m *Machine) restart(cause int) api.Status {
	m.activity, m.left = nil, 0
	m.regs.Z = startAddress
	m.regs.Extended, m.regs.Held = false, false
	m.regs.Inhibit, m.regs.Serving = false, false
	m.regs.Index, m.regs.B = 0, 0
	m.rupts = api.Rupts{}
	for ch := range m.channels {
		if isCleared(ch) {
			m.channels[ch] = 0
		}
	}
	m.lockCount, m.trapCount = 0, 0
	m.restartCount++
	return api.Status{Kind: api.StatusRestart, N: cause}
}

// isCleared reports whether a restart clears a channel.
func isCleared(ch int) bool {
	return ch == 5 || ch == 6 || ch >= 8 && ch <= 14
}
