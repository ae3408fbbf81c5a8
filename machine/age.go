package machine

import "netboot/api"

const renewTicks = 8 // that servers have to grant the lease anew

// tickAge: a lease that ends grows old. (All is dropped when its time is over, so that its age has room in 32 bits.) Very old comes ahead of old, since a short lease may be both at once, or very old first.
func (m *Machine) tickAge() {
	t := m.lease.terms
	age := uint32(m.now - m.lease.granted)
	switch {
	case !t.ends:
	case age >= t.over:
		m.drop()
	case age >= t.veryOld && m.lease.state != api.Rebinding:
		m.renew(api.Rebinding)
	case age >= t.old && m.lease.state == api.Bound:
		m.renew(api.Renewing)
	case m.lease.state != api.Bound && m.now >= m.lease.asked+renewTicks:
		m.renew(m.lease.state)
	}
}

// renew: the lease is asked for, of its server, or, in Rebinding, of all.
func (m *Machine) renew(state api.Lease) {
	m.lease.state, m.lease.asked = state, m.now
	if state == api.Rebinding {
		m.say(kindRequest)
	} else {
		m.sendToNeighbour(m.lease.server, m.saying(kindRequest))
	}
}
