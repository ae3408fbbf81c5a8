package machine

import (
	"netboot/api"
	"netboot/digest"
)

// What holds till options say other.
const (
	plainBlock  = 512
	plainWindow = 1
)

const firstBlock uint16 = 1

// fetch: how an image comes.
type fetch struct {
	port   uint16 // the machine's own
	from   uint16 // the port that the image comes from
	block  int    // bytes of a block
	window int    // blocks that come for one answer
	since  int    // blocks that came since something was answered
	next   uint16 // the block that comes next
	sent   api.UDP
	wait   wait // behind what was sent
}

// isFetching: the image is asked for, or comes.
func (m *Machine) isFetching() bool { return m.phase == api.Reading || m.phase == api.Loading }

// askForImage: from the beginning.
func (m *Machine) askForImage() {
	m.phase = api.Reading
	m.fetch = fetch{
		port:   portFirst + uint16(m.draw%ports),
		block:  plainBlock,
		window: plainWindow,
		next:   firstBlock,
	}
	m.fetch.sent = m.reading()
	m.sendOn()
}

func (m *Machine) tickImage() {
	if m.isFetching() {
		m.tickWait(m.fetch.wait, (*Machine).sendOn)
	}
}

// sendOn: what is to be sent, for the first time or again.
func (m *Machine) sendOn() {
	m.fetch.wait = m.waitMore(m.fetch.wait)
	m.sendToNeighbour(m.images(), m.fetch.sent)
}

// answer: the block ahead of the one that comes next.
func (m *Machine) answer() {
	m.fetch.since = 0
	m.fetch.sent, m.fetch.wait = m.acking(), wait{}
	m.sendOn()
}

// withhold: an answer, till the wait is over that would be behind it.
func (m *Machine) withhold() {
	m.fetch.sent, m.fetch.wait = m.acking(), m.waitMore(wait{})
}

// loadFrom: the image comes from a port.
func (m *Machine) loadFrom(port uint16) {
	m.phase = api.Loading
	m.fetch.from = port
}

// giveUp: an error is sent, and the attempt fails.
func (m *Machine) giveUp(port, code uint16) {
	m.refuse(port, code)
	m.fail()
}

func (m *Machine) errorCame(letter) { m.fail() }

func (m *Machine) optionsCame(l letter) {
	if m.phase != api.Reading {
		return
	}
	for _, f := range l.Fields {
		if code := m.agree(f); code != codeNone {
			m.giveUp(l.port, code)
			return
		}
	}
	m.loadFrom(l.port)
	m.answer()
}

func (m *Machine) dataCame(l letter) {
	if m.phase == api.Reading {
		if l.Block != firstBlock {
			return
		}
		m.loadFrom(l.port)
	}
	switch {
	case len(l.Data) > m.fetch.block:
	case l.Block != m.fetch.next:
		m.answer()
	case len(m.image)+len(l.Data) > m.config.Cap:
		m.giveUp(l.port, codeSize)
	default:
		m.blockCame(l.Data)
	}
}

// blockCame: the one that was to come next.
func (m *Machine) blockCame(data string) {
	m.image = append(m.image, data...)
	m.fetch.next++
	m.fetch.since++
	switch {
	case len(data) < m.fetch.block:
		m.answer()
		m.finish()
	case m.fetch.since == m.fetch.window:
		m.answer()
	default:
		m.withhold()
	}
}

// finish: all bytes have come; they are the image if they have its digest.
func (m *Machine) finish() {
	if digest.Of(string(m.image)) != [digest.Size]byte([]byte(m.config.Digest)) {
		m.fail()
		return
	}
	m.phase, m.fetch = api.Done, fetch{}
}
