package wire

import "netboot/api"

const (
	udpSize  = 8
	udpLoad  = ipLoad - udpSize
	udpSumAt = 6
)

// UDP: the Proto of packets that carry datagrams.
const UDP = 17

// ReadUDP: the datagram between two addresses that s begins with.
func ReadUDP(s string, from, to api.IP) (api.UDP, api.Errno) {
	return read(s, func(r *reader) api.UDP { return r.udp(from, to) })
}

func (r *reader) udp(from, to api.IP) api.UDP {
	r.need(udpSize)
	all := r.rest
	var u api.UDP
	u.From = r.word()
	u.To = r.word()
	length := r.length(udpSize, len(all))
	sum := r.word()
	must(sum == 0 || udpCheck(all[:length], from, to) == 0, api.ErrSum)
	u.Load = r.text(length - udpSize)
	return u
}

// WriteUDP: the bytes of a datagram between two addresses.
func WriteUDP(u api.UDP, from, to api.IP) (string, api.Errno) {
	if len(u.Load) > udpLoad {
		return "", api.ErrLong
	}
	var w writer
	w.words(u.From, u.To, uint16(udpSize+len(u.Load)), 0)
	w.texts(u.Load)
	sum := udpCheck(w.text(), from, to)
	if sum == 0 { // as it stands, 0 would say that there is none
		sum = 0xffff
	}
	w.wordAt(udpSumAt, sum)
	return w.text(), api.OK
}

// udpCheck: the sum of a datagram, and of what stands ahead of it there alone.
func udpCheck(datagram string, from, to api.IP) uint16 {
	var w writer
	w.addresses(from, to)
	w.bytes(0, UDP)
	w.words(uint16(len(datagram)))
	w.texts(datagram)
	return Check(w.text())
}
