package machine

import (
	"netboot/api"
	"netboot/wire"
)

// Kinds of messages.
const (
	kindDiscover uint8 = iota + 1
	kindOffer
	kindRequest
	kindDecline
	kindAck
	kindNak
)

// Codes of options.
const (
	optionMask    uint8 = 1
	optionRouter  uint8 = 3
	optionAddress uint8 = 50
	optionTime    uint8 = 51
	optionKind    uint8 = 53
	optionServer  uint8 = 54
	optionWants   uint8 = 55 // the codes that an answer is to have
	optionOld     uint8 = 58
	optionVeryOld uint8 = 59
)

const (
	portServers uint16 = 67
	portDHCP    uint16 = 68 // the machine's own
)

// say: a kind of message, and options beside, to everybody.
func (m *Machine) say(kind uint8, beside ...api.Option) {
	m.sendToEverybody(m.saying(kind, beside...))
}

// saying: the datagram of what is said. What is declined is not asked for.
func (m *Machine) saying(kind uint8, beside ...api.Option) api.UDP {
	options := append(wire.Options{wire.ByteOption(optionKind, kind)}, beside...)
	if kind != kindDecline {
		options = append(options, wants())
	}
	d := api.DHCP{Xid: m.lease.xid, Client: m.address(), Card: m.config.Card, Options: options}
	return api.UDP{From: portDHCP, To: portServers, Load: made(wire.WriteDHCP(d))}
}

func wants() api.Option {
	return wire.ByteOption(optionWants, optionMask, optionRouter, optionTime, optionServer, optionOld, optionVeryOld)
}

// reply: a message to the machine, and the server that it is from.
type reply struct {
	message api.DHCP
	server  api.IP
}

func (r reply) options() wire.Options { return r.message.Options }

// replyHands: by kinds of messages.
func replyHands() []hand[reply] {
	return []hand[reply]{
		{uint16(kindOffer), (*Machine).offerCame},
		{uint16(kindAck), (*Machine).ackCame},
		{uint16(kindNak), (*Machine).nakCame},
	}
}

func (m *Machine) dhcpCame(load string) {
	d, e := wire.ReadDHCP(load)
	if e != api.OK || !d.Reply || d.Xid != m.lease.xid || d.Card != m.config.Card {
		return
	}
	options := wire.Options(d.Options)
	kind, one := options.Byte(optionKind)
	server, four := options.Address(optionServer)
	if one && four {
		handOn(m, replyHands(), uint16(kind), reply{d, server})
	}
}
