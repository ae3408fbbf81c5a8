package boot_test

import (
	"testing"

	"netboot/api"
	"netboot/boot"
)

// What the tests of machines share: a machine and its configuration, what comes to it, what it sends.

var (
	myCard    = api.MAC{2, 0, 0, 0, 0, 42}
	otherCard = api.MAC{2, 0, 0, 0, 0, 7}
	allCards  = api.MAC{255, 255, 255, 255, 255, 255}
)

const (
	myIP     api.IP = 0x0a000037
	serverIP api.IP = 0x0a000001
	otherIP  api.IP = 0x0a000002
	toAllIP  api.IP = 0xffffffff
)

// Kinds of messages of DHCP.
const (
	discover = iota + 1
	offer
	request
	decline
	ack
	nak
)

const wants = "\x01\x03\x33\x36\x3a\x3b"

func config() api.Config {
	return api.Config{Card: myCard, Name: "kernel", Cap: 100, Digest: boot.Hash("image"), Block: 8, Window: 2, Rx: 8, Tx: 8}
}

func begin(t *testing.T, c api.Config) *boot.Boot {
	t.Helper()
	b, e := boot.New(c)
	if b == nil || e != api.OK {
		t.Fatalf("P6: New(%v) = %v, %d", c, b, e)
	}
	return b
}

func ticks(b *boot.Boot, n int, draw uint32) {
	for range n {
		b.Tick(draw)
	}
}

// comes: frames, each of which is looked at before the next one comes.
func comes(t *testing.T, b *boot.Boot, frames ...string) {
	t.Helper()
	for _, f := range frames {
		if !b.Put(f) {
			t.Fatalf("P6: no room for a frame")
		}
		if n := b.Poll(1); n != 1 {
			t.Fatalf("P6: Poll(1) = %d", n)
		}
	}
}

func allOut(b *boot.Boot) []string {
	var out []string
	for {
		s, ok := b.Take()
		if !ok {
			return out
		}
		out = append(out, s)
	}
}

// wantOut: the frames that wait are just these.
func wantOut(t *testing.T, b *boot.Boot, what string, want ...string) {
	t.Helper()
	got := allOut(b)
	if len(got) != len(want) {
		t.Fatalf("%s: %d frames are sent, want %d: %x", what, len(got), len(want), got)
	}
	for i, w := range want {
		if got[i] != w {
			t.Fatalf("%s: frame %d:\n%x, want\n%x", what, i, got[i], w)
		}
	}
}

func wantLook(t *testing.T, b *boot.Boot, what string, want api.Look) {
	t.Helper()
	if l := b.Look(); l != want {
		t.Fatalf("%s: Look() = %+v, want %+v", what, l, want)
	}
	if s, ok := b.Image(); s != "" || ok {
		t.Fatalf("%s: Image() = %x, %v", what, s, ok)
	}
}

func fourBytes(n uint32) string {
	return string([]byte{byte(n >> 24), byte(n >> 16), byte(n >> 8), byte(n)})
}

func addressOption(code uint8, a api.IP) api.Option { return option(code, fourBytes(uint32(a))) }

// letter: all that stands around a message of DHCP.
type letter struct {
	ether   api.Ether
	ip      api.IPv4
	udp     api.UDP
	message api.DHCP
}

func (l letter) frame() string {
	l.udp.Load, _ = boot.WriteDHCP(l.message)
	return l.datagramFrame()
}

// datagramFrame: with what the datagram carries as it is.
func (l letter) datagramFrame() string {
	l.ip.Load, _ = boot.WriteUDP(l.udp, l.ip.From, l.ip.To)
	return l.packetFrame()
}

// packetFrame: with what the packet carries as it is.
func (l letter) packetFrame() string {
	l.ether.Load, _ = boot.WriteIP(l.ip)
	s, _ := boot.WriteEther(l.ether)
	return s
}

// said: by the machine, to everybody.
func said(id uint16, xid uint32, options ...api.Option) string {
	return letter{
		ether:   api.Ether{To: allCards, From: myCard, Type: 0x0800},
		ip:      api.IPv4{ID: id, TTL: 64, Proto: 17, To: toAllIP},
		udp:     api.UDP{From: 68, To: 67},
		message: api.DHCP{Xid: xid, Card: myCard, Options: options},
	}.frame()
}

func kindOption(kind byte) api.Option { return option(53, string([]byte{kind})) }

func aDiscover(id uint16, xid uint32) string {
	return said(id, xid, kindOption(discover), option(55, wants))
}

func aRequest(id uint16, xid uint32) string {
	return said(id, xid, kindOption(request), addressOption(50, myIP), addressOption(54, serverIP), option(55, wants))
}

func aDecline(id uint16, xid uint32) string {
	return said(id, xid, kindOption(decline), addressOption(50, myIP), addressOption(54, serverIP))
}

// arpFrame: also one that says another sender than its ARP does.
func arpFrame(to, from api.MAC, a api.ARP) string {
	load, _ := boot.WriteARP(a)
	s, _ := boot.WriteEther(api.Ether{To: to, From: from, Type: 0x0806, Load: load})
	return s
}

// whoHas: the machine asks for its own address, when it does not have it yet.
func whoHas() string {
	return arpFrame(allCards, myCard, api.ARP{Op: 1, FromMAC: myCard, ToIP: myIP})
}

// told: by the server: a kind of message, with a time.
func told(kind byte, xid uint32) letter {
	return letter{
		ether: api.Ether{To: myCard, From: otherCard, Type: 0x0800},
		ip:    api.IPv4{TTL: 9, Proto: 17, From: serverIP, To: myIP},
		udp:   api.UDP{From: 67, To: 68},
		message: api.DHCP{Reply: true, Xid: xid, Yours: myIP, Card: myCard, Options: []api.Option{
			kindOption(kind), addressOption(54, serverIP), option(51, fourBytes(3600)),
		}},
	}
}

// with: an option instead of the one of its code, or behind all.
func (l letter) with(o api.Option) letter {
	l = l.without(o.Code)
	l.message.Options = append(l.message.Options, o)
	return l
}

func (l letter) without(code uint8) letter {
	var kept []api.Option
	for _, o := range l.message.Options {
		if o.Code != code {
			kept = append(kept, o)
		}
	}
	l.message.Options = kept
	return l
}

const theXid = 0x01020307 // a draw, too: modulo 3 it is 1, so that the first wait is two ticks

// reach: a machine whose lease is so far, with nothing that waits to be sent.
func reach(t *testing.T, state api.Lease) *boot.Boot {
	t.Helper()
	b := begin(t, config())
	if state >= api.Selecting {
		b.Tick(theXid)
	}
	if state >= api.Requesting {
		comes(t, b, told(offer, theXid).frame())
	}
	if state >= api.Probing {
		comes(t, b, ackToReach(state).frame())
	}
	if state >= api.Bound {
		ticks(b, 2, theXid)
	}
	if state >= api.Renewing {
		b.Tick(theXid)
	}
	if l := b.Look(); l.Lease != state {
		t.Fatalf("P7: the lease is %d, want %d", l.Lease, state)
	}
	allOut(b)
	return b
}

// ackToReach: of a lease that is so far one tick behind Bound, if it may grow old so soon.
func ackToReach(state api.Lease) letter {
	switch state {
	case api.Renewing:
		return leaseOf(3600, 3, 3000)
	case api.Rebinding:
		return leaseOf(3600, 2, 3)
	}
	return told(ack, theXid)
}

// leaseOf: an ack for a time, with the times by which it is old and very old, if they are told.
func leaseOf(time uint32, ages ...uint32) letter {
	l := told(ack, theXid).with(option(51, fourBytes(time)))
	for k, age := range ages {
		l = l.with(option(uint8(58+k), fourBytes(age)))
	}
	return l
}

// reachFailed: a machine whose attempts are all over.
func reachFailed(t *testing.T) *boot.Boot {
	t.Helper()
	b := begin(t, config())
	for b.Look().Phase != api.Failed {
		b.Tick(theXid)
		allOut(b)
		if b.Look().Now > 1000 {
			t.Fatalf("P7: a silent network: Look() = %+v", b.Look())
		}
	}
	return b
}
