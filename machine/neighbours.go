package machine

import (
	"slices"

	"netboot/api"
	"netboot/wire"
)

const (
	askTicks = 2 // that a neighbour has to tell its card
	maxAsks  = 3 // times that it is asked for
)

// neighbour: what there is of one.
type neighbour struct {
	asks  int     // how often it was asked for; 0: its card is known
	card  api.MAC // once that is known
	until int     // when its time is up
	waits string  // the packet that is sent as soon as the card is known; "": none
}

func (n neighbour) isKnown() bool { return n.asks == 0 }

func (n neighbour) isUp(now int) bool { return now >= n.until }

// isGone: nothing is hoped for of it any more.
func (n neighbour) isGone(now int) bool { return n.isUp(now) && (n.isKnown() || n.asks == maxAsks) }

// cache: neighbours by their addresses.
type cache map[api.IP]neighbour

// keep: a neighbour, instead of what there was of it. If there was nothing, and there is no room, another one goes for it.
func (c cache) keep(address api.IP, n neighbour) {
	if _, found := c[address]; !found && len(c) == api.MaxCache {
		delete(c, c.first())
	}
	c[address] = n
}

// first: the address of the one whose time is up first; of several, the least address, lest it hang on the order of the map.
func (c cache) first() api.IP {
	var first api.IP
	found := false
	for address, n := range c {
		until := c[first].until
		if !found || n.until < until || n.until == until && address < first {
			first, found = address, true
		}
	}
	return first
}

// forget: those of which nothing is hoped for any more.
func (c cache) forget(now int) {
	for address, n := range c {
		if n.isGone(now) {
			delete(c, address)
		}
	}
}

// due: the addresses of those whose time is up, rising.
func (c cache) due(now int) []api.IP {
	var due []api.IP
	for address, n := range c {
		if n.isUp(now) {
			due = append(due, address)
		}
	}
	slices.Sort(due)
	return due
}

func (m *Machine) tickCache() {
	m.forget(m.now)
	for _, address := range m.due(m.now) {
		m.seek(address, m.cache[address])
	}
}

// seek: a neighbour is asked for, for the first time or again.
func (m *Machine) seek(address api.IP, n neighbour) {
	n.asks++
	n.until = m.now + askTicks
	m.keep(address, n)
	m.ask(address)
}

// sendToNeighbour: a datagram, to its address or to the router. Its packet is made now, even if it must wait.
func (m *Machine) sendToNeighbour(to api.IP, u api.UDP) {
	packet := m.packet(to, u)
	hop := m.hop(to)
	n, found := m.cache[hop]
	switch {
	case !found:
		m.seek(hop, neighbour{waits: packet})
	case n.isKnown():
		m.send(n.card, typeIP, packet)
	default:
		n.waits = packet
		m.keep(hop, n)
	}
}

// hop: the neighbour that takes what goes to an address.
func (m *Machine) hop(to api.IP) api.IP {
	t := m.lease.terms
	inNet := to&t.mask == m.address()&t.mask
	if inNet || t.router == 0 {
		return to
	}
	return t.router
}

func (m *Machine) arpCame(load string) {
	a, e := wire.ReadARP(load)
	if e != api.OK {
		return
	}
	if m.isTaken(a) {
		m.decline()
		return
	}
	m.learn(a)
	if m.isAsked(a) {
		m.tell(a)
	}
}

// isTaken: another says that it has the address that the machine would have.
func (m *Machine) isTaken(a api.ARP) bool {
	return m.lease.state == api.Probing && a.FromIP == m.lease.address && a.FromMAC != m.config.Card
}

// isAsked: the machine is asked for its address, and has one.
func (m *Machine) isAsked(a api.ARP) bool {
	return a.Op == wire.Ask && a.ToIP != 0 && a.ToIP == m.address()
}

// learn: the card of one that has an address of its own, if the machine has to do with it.
func (m *Machine) learn(a api.ARP) {
	if a.FromIP == 0 || a.FromIP == m.address() {
		return
	}
	n, found := m.cache[a.FromIP]
	if !found && !m.isAsked(a) {
		return
	}
	m.keep(a.FromIP, neighbour{card: a.FromMAC, until: m.now + api.Fresh})
	if n.waits != "" {
		m.send(a.FromMAC, typeIP, n.waits)
	}
}

// tell: the machine's card, to the one that asks.
func (m *Machine) tell(asks api.ARP) {
	a := api.ARP{Op: wire.Tell, FromMAC: m.config.Card, FromIP: m.address(), ToMAC: asks.FromMAC, ToIP: asks.FromIP}
	m.send(asks.FromMAC, typeARP, made(wire.WriteARP(a)))
}
