package machine

import (
	"netboot/api"
	"netboot/wire"
)

// Types of frames.
const (
	typeIP  uint16 = 0x0800
	typeARP uint16 = 0x0806
)

// hand: what looks at one kind of what comes.
type hand[T any] struct {
	kind uint16
	look func(*Machine, T)
}

// handOn: what came, to the one that looks at its kind; if none does, it is let be.
func handOn[T any](m *Machine, hands []hand[T], kind uint16, what T) {
	for _, h := range hands {
		if h.kind == kind {
			h.look(m, what)
		}
	}
}

// frameHands: by types of frames; what they carry is handed on.
func frameHands() []hand[string] {
	return []hand[string]{
		{typeARP, (*Machine).arpCame},
		{typeIP, (*Machine).packetCame},
	}
}

// frame: one is looked at.
func (m *Machine) frame(s string) {
	f, e := wire.ReadEther(s)
	if e != api.OK || f.To != m.config.Card && f.To != allCards {
		return
	}
	handOn(m, frameHands(), f.Type, f.Load)
}

func (m *Machine) packetCame(load string) {
	p, e := wire.ReadIP(load)
	if e != api.OK || p.Proto != wire.UDP {
		return
	}
	u, e := wire.ReadUDP(p.Load, p.From, p.To)
	if e != api.OK {
		return
	}
	if u.To == portDHCP {
		m.dhcpCame(u.Load)
	} else {
		m.tftpCame(p, u)
	}
}
