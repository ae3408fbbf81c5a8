package wire

import "netboot/api"

// The ops of DHCP.
const (
	dhcpAsk uint8 = iota + 1
	dhcpReply
)

const (
	dhcpSize   = 240
	dhcpLeast  = 300
	dhcpCard   = "\x01\x06" // of Ethernet, and how long a card's number is
	dhcpCookie = "\x63\x82\x53\x63"
	dhcpSpare  = 10  // bytes behind the card's number, for longer ones
	dhcpHost   = 64  // bytes for the server's name
	dhcpFile   = 128 // bytes for the image's name
)

// toAllFlag: answers go to all, since the machine has no address to send them to.
const toAllFlag uint16 = 0x8000

// ReadDHCP: the message that s is.
func ReadDHCP(s string) (api.DHCP, api.Errno) { return read(s, (*reader).dhcp) }

func (r *reader) dhcp() api.DHCP {
	r.need(dhcpSize)
	var m api.DHCP
	m.Reply = get(r, (*reader).byte, isDHCPOp, api.ErrForm) == dhcpReply
	must(r.take(len(dhcpCard)) == dhcpCard, api.ErrForm)
	r.byte() // hops
	m.Xid = r.long()
	r.long() // a time, and the flags
	m.Client = r.address()
	m.Yours = r.address()
	m.Next = r.address()
	r.address()
	m.Card = r.card()
	r.take(dhcpSpare)
	host := r.take(dhcpHost)
	file := r.take(dhcpFile)
	must(r.take(len(dhcpCookie)) == dhcpCookie, api.ErrForm)
	m.Options = r.allOptions(host, file)
	return m
}

// allOptions: those that are still to be read, and those that stand where names would.
func (r *reader) allOptions(host, file string) Options {
	first := r.options()
	var more Options
	for _, area := range first.areas(host, file) {
		inner := reader{area}
		more = append(more, inner.options()...)
	}
	_, again := more.Data(optionAreas)
	must(!again, api.ErrForm)
	return append(first.without(optionAreas), more...).joined()
}

// WriteDHCP: the bytes of a message.
func WriteDHCP(m api.DHCP) (string, api.Errno) {
	options := Options(m.Options)
	if !options.mayBeSaid() {
		return "", api.ErrForm
	}
	var w writer
	w.dhcpHead(m)
	w.options(options, udpLoad)
	w.fill(dhcpLeast)
	if len(w.out) > udpLoad {
		return "", api.ErrLong
	}
	return w.text(), api.OK
}

func (w *writer) dhcpHead(m api.DHCP) {
	op, flags := dhcpAsk, uint16(0)
	if m.Reply {
		op = dhcpReply
	}
	if m.Client == 0 {
		flags = toAllFlag
	}
	w.bytes(op)
	w.texts(dhcpCard)
	w.bytes(0)
	w.longs(m.Xid)
	w.words(0, flags)
	w.addresses(m.Client, m.Yours, m.Next, 0)
	w.cards(m.Card)
	w.fill(dhcpSize - len(dhcpCookie))
	w.texts(dhcpCookie)
}

func isDHCPOp(n uint8) bool { return n == dhcpAsk || n == dhcpReply }
