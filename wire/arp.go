package wire

import "netboot/api"

// The ops of ARP.
const (
	Ask uint16 = iota + 1
	Tell
)

const (
	arpSize  = 28
	arpFirst = "\x00\x01\x08\x00\x06\x04" // of Ethernet and IPv4, and how long the addresses of both are
)

// ReadARP: the ARP that s begins with.
func ReadARP(s string) (api.ARP, api.Errno) { return read(s, arp) }

func arp(r *reader) api.ARP {
	r.need(arpSize)
	get(r, arpHead, isARPHead, api.ErrForm)
	var a api.ARP
	a.Op = get(r, (*reader).word, isOp, api.ErrForm)
	a.FromMAC = r.card()
	a.FromIP = r.address()
	a.ToMAC = r.card()
	a.ToIP = r.address()
	return a
}

// WriteARP: the bytes of an ARP.
func WriteARP(a api.ARP) (string, api.Errno) {
	if !isOp(a.Op) {
		return "", api.ErrForm
	}
	var w writer
	w.texts(arpFirst)
	w.words(a.Op)
	w.cards(a.FromMAC)
	w.addresses(a.FromIP)
	w.cards(a.ToMAC)
	w.addresses(a.ToIP)
	return w.text(), api.OK
}

func arpHead(r *reader) string { return r.take(len(arpFirst)) }

func isARPHead(s string) bool { return s == arpFirst }

func isOp(n uint16) bool { return n == Ask || n == Tell }
