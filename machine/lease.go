package machine

import (
	"netboot/api"
	"netboot/wire"
)

const probeTicks = 2 // that others have to say that the address is theirs

// lease: how far it is, and what belongs to that.
type lease struct {
	state   api.Lease
	xid     uint32
	address api.IP // that was offered
	server  api.IP
	wait    wait // of Selecting and Requesting
	granted int  // when it was granted, which, at first, is when Probing began
	terms   terms
	asked   int // when it was asked for, in Renewing and Rebinding
}

// isFrom: the server is the lease's; when that is silent, any will do.
func (l lease) isFrom(server api.IP) bool { return l.state == api.Rebinding || server == l.server }

func (m *Machine) tickLease() {
	switch m.lease.state {
	case api.Off:
		m.lease.xid = m.draw
		m.enter(api.Selecting)
	case api.Selecting, api.Requesting:
		m.tickWait(m.lease.wait, (*Machine).press)
	case api.Probing:
		if m.now >= m.lease.granted+probeTicks {
			m.lease.state = api.Bound
			m.askForImage()
		}
	case api.Bound, api.Renewing, api.Rebinding:
		m.tickAge()
	}
}

// enter: a state in which something is said until it is answered.
func (m *Machine) enter(state api.Lease) {
	m.lease.state = state
	m.lease.wait = wait{}
	m.press()
}

// press: what the state waits for an answer to is said, for the first time or again.
func (m *Machine) press() {
	m.lease.wait = m.waitMore(m.lease.wait)
	if m.lease.state == api.Selecting {
		m.say(kindDiscover)
	} else {
		m.say(kindRequest, m.offered()...)
	}
}

// offered: what was, as options.
func (m *Machine) offered() wire.Options {
	return wire.Options{
		wire.AddressOption(optionAddress, m.lease.address),
		wire.AddressOption(optionServer, m.lease.server),
	}
}

// decline: another has the address.
func (m *Machine) decline() {
	m.say(kindDecline, m.offered()...)
	m.fail()
}

func (m *Machine) offerCame(r reply) {
	if m.lease.state != api.Selecting || r.message.Yours == 0 {
		return
	}
	m.lease.address, m.lease.server = r.message.Yours, r.server
	m.enter(api.Requesting)
}

func (m *Machine) ackCame(r reply) {
	switch m.lease.state {
	case api.Requesting, api.Renewing, api.Rebinding:
		if r.message.Yours == m.lease.address && m.lease.isFrom(r.server) {
			m.grant(r)
		}
	}
}

// grant: the lease, if the reply says for how long.
func (m *Machine) grant(r reply) {
	t, told := r.terms()
	if !told {
		return
	}
	m.lease.server, m.lease.granted, m.lease.terms = r.server, m.now, t
	if m.lease.state != api.Requesting {
		m.lease.state = api.Bound
		return
	}
	m.lease.state = api.Probing
	m.ask(m.lease.address)
}

func (m *Machine) nakCame(r reply) {
	switch m.lease.state {
	case api.Requesting, api.Bound, api.Renewing, api.Rebinding:
		if m.lease.isFrom(r.server) {
			m.drop()
		}
	}
}
