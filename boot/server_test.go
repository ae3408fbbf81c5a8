package boot_test

import (
	"strconv"
	"testing"

	"netboot/api"
	"netboot/boot"
)

// What the tests of neighbours and of images share: machines that are so far, what comes to them, what they send.

const (
	myPort     uint16 = 1024 + theXid%60000
	serverPort uint16 = 2000
	otherPort  uint16 = 2001
)

const routerIP api.IP = 0x0a000009

var thirdCard = api.MAC{2, 0, 0, 0, 0, 99}

// asksFor: the machine asks for an address, when it has one itself.
func asksFor(ip api.IP) string {
	return arpFrame(allCards, myCard, api.ARP{Op: 1, FromMAC: myCard, FromIP: myIP, ToIP: ip})
}

// tells: a neighbour tells the machine its card.
func tells(from api.MAC, ip api.IP) string {
	return arpFrame(myCard, from, api.ARP{Op: 2, FromMAC: from, FromIP: ip, ToMAC: myCard, ToIP: myIP})
}

// asksMe: a neighbour asks for the machine's address.
func asksMe(from api.MAC, ip api.IP) string {
	return arpFrame(allCards, from, api.ARP{Op: 1, FromMAC: from, FromIP: ip, ToIP: myIP})
}

// isTold: the machine tells its card to a neighbour.
func isTold(to api.MAC, ip api.IP) string {
	return arpFrame(to, myCard, api.ARP{Op: 2, FromMAC: myCard, FromIP: myIP, ToMAC: to, ToIP: ip})
}

func data(block uint16, s string) api.TFTP { return api.TFTP{Op: 3, Block: block, Data: s} }

func acks(block uint16) api.TFTP { return api.TFTP{Op: 4, Block: block} }

func failure(code uint16, text string) api.TFTP { return api.TFTP{Op: 5, Block: code, Text: text} }

func options(l ...api.Field) api.TFTP { return api.TFTP{Op: 6, Fields: l} }

// readOf: what a machine of a configuration asks for.
func readOf(c api.Config) api.TFTP {
	return api.TFTP{Op: 1, Text: c.Name, Fields: []api.Field{
		field("blksize", strconv.Itoa(c.Block)), field("windowsize", strconv.Itoa(c.Window)), field("tsize", "0"),
	}}
}

// sending: a message of TFTP from the machine to a port of the server, and all around it.
func sending(id, port uint16, m api.TFTP) letter {
	load, _ := boot.WriteTFTP(m)
	return letter{
		ether: api.Ether{To: otherCard, From: myCard, Type: 0x0800},
		ip:    api.IPv4{ID: id, TTL: 64, Proto: 17, From: myIP, To: serverIP},
		udp:   api.UDP{From: myPort, To: port, Load: load},
	}
}

func sent(id, port uint16, m api.TFTP) string { return sending(id, port, m).datagramFrame() }

// serving: a message of TFTP from a port of the server to the machine, and all around it.
func serving(port uint16, m api.TFTP) letter {
	load, _ := boot.WriteTFTP(m)
	return letter{
		ether: api.Ether{To: myCard, From: otherCard, Type: 0x0800},
		ip:    api.IPv4{ID: 77, TTL: 9, Proto: 17, From: serverIP, To: myIP},
		udp:   api.UDP{From: port, To: myPort, Load: load},
	}
}

func served(port uint16, m api.TFTP) string { return serving(port, m).datagramFrame() }

// bind: a machine at the tick at which it is Bound, with what it sends then; the lease is granted by an ack.
func bind(t *testing.T, c api.Config, draw uint32, granted letter) *boot.Boot {
	t.Helper()
	b := begin(t, c)
	b.Tick(draw)
	comes(t, b, told(offer, draw).frame(), granted.frame())
	b.Tick(draw)
	allOut(b)
	b.Tick(draw)
	if l := b.Look(); l.Now != 3 || l.Lease != api.Bound || l.Address != myIP || l.Phase != api.Reading {
		t.Fatalf("P7: Look() = %+v", l)
	}
	return b
}

func bound(t *testing.T, c api.Config) *boot.Boot {
	t.Helper()
	return bind(t, c, theXid, told(ack, theXid))
}

// reading: a machine at tick 3 whose read was sent just now, to a server that is known. The next ID is 3.
func reading(t *testing.T, c api.Config) *boot.Boot {
	t.Helper()
	b := bound(t, c)
	comes(t, b, tells(otherCard, serverIP))
	wantOut(t, b, "P9: a read", asksFor(serverIP), sent(2, 69, readOf(c)))
	return b
}

// loading: a machine at tick 3 that has answered options just now. The next ID is 4.
func loading(t *testing.T, c api.Config, l ...api.Field) *boot.Boot {
	t.Helper()
	b := reading(t, c)
	comes(t, b, served(serverPort, options(l...)))
	wantOut(t, b, "P9: options", sent(3, serverPort, acks(0)))
	if l := b.Look(); l != looks(3, api.Loading, 0) {
		t.Fatalf("P9: options: Look() = %+v", l)
	}
	return b
}

// eights: a machine that loads blocks of 8 bytes in windows of so many.
func eights(t *testing.T, c api.Config, window int) *boot.Boot {
	t.Helper()
	return loading(t, c, field("blksize", "8"), field("windowsize", strconv.Itoa(window)))
}

// looks: of a machine in its first attempt, with one neighbour.
func looks(now int, phase api.Phase, bytes int) api.Look {
	return api.Look{Now: now, Lease: api.Bound, Phase: phase, Address: myIP, Bytes: bytes, Cached: 1}
}

// wantSent: what comes makes the machine send just these frames.
func wantSent(t *testing.T, b *boot.Boot, what, frame string, want ...string) {
	t.Helper()
	comes(t, b, frame)
	wantOut(t, b, what, want...)
}

func wantImage(t *testing.T, b *boot.Boot, what, want string) {
	t.Helper()
	if s, ok := b.Image(); s != want || !ok {
		t.Fatalf("%s: Image() has %d bytes, %v, want %d: %.40x", what, len(s), ok, len(want), s)
	}
	if l := b.Look(); l.Phase != api.Done || l.Bytes != len(want) {
		t.Fatalf("%s: Look() = %+v", what, l)
	}
}
