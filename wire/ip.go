package wire

import "netboot/api"

const (
	ipVersion = 4
	ipWords   = 5 // of four bytes, in a head without options
	ipSize    = 20
	ipLoad    = api.MaxLoad - ipSize
	ipSumAt   = 10
)

// Bits of flags and part.
const (
	unusedFlag uint16 = 0x8000
	wholeFlag  uint16 = 0x4000
	partBits   uint16 = 0x3fff // more parts come, and where this one stands
)

// ReadIP: the packet that s begins with.
func ReadIP(s string) (api.IPv4, api.Errno) { return read(s, (*reader).ip) }

func (r *reader) ip() api.IPv4 {
	r.need(ipSize)
	all := r.rest
	r.ipFirst()
	length := r.length(ipSize, len(all))
	must(Check(all[:ipSize]) == 0, api.ErrSum)
	var p api.IPv4
	p.ID = r.word()
	part := r.word()
	p.TTL = r.byte()
	must(part&unusedFlag == 0 && p.TTL != 0, api.ErrForm)
	must(part&partBits == 0, api.ErrFragment)
	p.Proto = r.byte()
	r.word() // the sum, which is right
	p.From = r.address()
	p.To = r.address()
	p.Load = r.text(length - ipSize)
	return p
}

// ipFirst: what stands ahead of the packet's length.
func (r *reader) ipFirst() {
	first := r.byte()
	version, words := first>>4, first&15
	must(version == ipVersion && words >= ipWords, api.ErrForm)
	must(words == ipWords, api.ErrOptions)
	r.byte()
}

// WriteIP: the bytes of a packet.
func WriteIP(p api.IPv4) (string, api.Errno) {
	if p.TTL == 0 {
		return "", api.ErrForm
	}
	if len(p.Load) > ipLoad {
		return "", api.ErrLong
	}
	var w writer
	w.bytes(ipVersion<<4|ipWords, 0)
	w.words(uint16(ipSize+len(p.Load)), p.ID, wholeFlag)
	w.bytes(p.TTL, p.Proto)
	w.words(0)
	w.addresses(p.From, p.To)
	w.wordAt(ipSumAt, Check(w.text()))
	w.texts(p.Load)
	return w.text(), api.OK
}
