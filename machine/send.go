package machine

import (
	"netboot/api"
	"netboot/wire"
)

const packetTTL = 64

// Addresses that are of no single one: all cards, and everybody.
var allCards = api.MAC{0xff, 0xff, 0xff, 0xff, 0xff, 0xff}

const everybody api.IP = 0xffffffff

// made: what was written. The machine's own messages are of a right form and short, so that there is no error to look at.
func made(s string, _ api.Errno) string { return s }

// send: a frame of a type waits to be sent, or is lost.
func (m *Machine) send(to api.MAC, kind uint16, load string) {
	frame := made(wire.WriteEther(api.Ether{To: to, From: m.config.Card, Type: kind, Load: load}))
	if !m.goes.Add(frame) {
		m.lost++
	}
}

// ask: who has an address?
func (m *Machine) ask(address api.IP) {
	a := api.ARP{Op: wire.Ask, FromMAC: m.config.Card, FromIP: m.address(), ToIP: address}
	m.send(allCards, typeARP, made(wire.WriteARP(a)))
}

// packet: with a datagram. Its ID is gone with it, even if it is lost.
func (m *Machine) packet(to api.IP, u api.UDP) string {
	from := m.address()
	p := api.IPv4{ID: m.id, TTL: packetTTL, Proto: wire.UDP, From: from, To: to}
	p.Load = made(wire.WriteUDP(u, from, to))
	m.id++
	return made(wire.WriteIP(p))
}

func (m *Machine) sendToEverybody(u api.UDP) {
	m.send(allCards, typeIP, m.packet(everybody, u))
}
