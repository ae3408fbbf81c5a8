package machine

import (
	"testing"

	"netboot/api"
	"netboot/wire"
)

// What is seen best from inside: the terms of a lease, what comes to one that grows old, and a machine that is Done.

const (
	server api.IP = 0x0a000001
	other  api.IP = 0x0a000002
	mine   api.IP = 0x0a000037
)

var myCard = api.MAC{2, 0, 0, 0, 0, 42}

func newMachine(t *testing.T) *Machine {
	t.Helper()
	m, e := New(api.Config{Card: myCard, Name: "k", Cap: 1, Digest: "12345678901234567890123456789012", Block: 8, Window: 1, Rx: 4, Tx: 4})
	if e != api.OK {
		t.Fatalf("P6: New: %d", e)
	}
	return m
}

// leased: a machine at time 100, with a lease that is so far.
func leased(t *testing.T, state api.Lease) *Machine {
	m := newMachine(t)
	m.now = 100
	m.lease = lease{state: state, xid: 5, address: mine, server: server, granted: 9}
	return m
}

func long(code uint8, n uint32) api.Option { return wire.AddressOption(code, api.IP(n)) }

func text(code uint8, s string) api.Option { return api.Option{Code: code, Data: s} }

// answer: a frame with a reply, for what is leased.
func answer(kind uint8, from api.IP, more ...api.Option) string {
	options := append([]api.Option{wire.ByteOption(optionKind, kind), wire.AddressOption(optionServer, from)}, more...)
	d := api.DHCP{Reply: true, Xid: 5, Yours: mine, Card: myCard, Options: options}
	u := api.UDP{From: portServers, To: portDHCP, Load: made(wire.WriteDHCP(d))}
	p := api.IPv4{TTL: 1, Proto: wire.UDP, From: from, To: mine, Load: made(wire.WriteUDP(u, from, mine))}
	return made(wire.WriteEther(api.Ether{To: myCard, Type: typeIP, Load: made(wire.WriteIP(p))}))
}

func (m *Machine) comes(t *testing.T, frame string) {
	t.Helper()
	if !m.Put(frame) || m.Poll(1) != 1 {
		t.Fatalf("P6: a frame does not come")
	}
}

func wantTerms(t *testing.T, d api.DHCP, want terms) {
	t.Helper()
	got, told := reply{d, server}.terms()
	if !told || got != want {
		t.Errorf("P7: the terms of %v are %+v, %v, want %+v", d.Options, got, told, want)
	}
}

// hour: the terms of a lease of an hour of which nothing else is told.
func hour() terms {
	return terms{mask: everybody, images: server, ends: true, old: 1800, veryOld: 3150, over: 3600}
}

func TestTermsWithoutATime(t *testing.T) {
	for _, o := range [][]api.Option{nil, {text(51, "")}, {text(51, "\x00\x0e\x10")}, {text(51, "\x00\x00\x00\x0e\x10")}, {long(51, 0)}} {
		if got, told := (reply{api.DHCP{Next: other, Options: o}, server}).terms(); told || got != (terms{}) {
			t.Errorf("P7: the terms of %v are %+v, %v", o, got, told)
		}
	}
}

func TestMasks(t *testing.T) {
	for _, x := range []struct {
		data string
		want api.IP
	}{
		{"", everybody}, {"\xff", everybody}, {"\xff\xff\xff", everybody}, {"\xff\xff\xff\x00\x00", everybody},
		{"\xff\xff\xff\x00", 0xffffff00}, {"\x00\x00\x00\x00", 0}, {"\x01\x02\x03\x04", 0x01020304},
	} {
		want := hour()
		want.mask = x.want
		wantTerms(t, api.DHCP{Options: []api.Option{long(51, 3600), text(1, x.data)}}, want)
	}
}

func TestRouters(t *testing.T) {
	for _, x := range []struct {
		data string
		want api.IP
	}{
		{"", 0}, {"\x0a", 0}, {"\x0a\x00\x00", 0}, {"\x0a\x00\x00\x02", other},
		{"\x0a\x00\x00\x02\x0a", other}, {"\x0a\x00\x00\x02\x0a\x00\x00\x03", other},
	} {
		want := hour()
		want.router = x.want
		wantTerms(t, api.DHCP{Options: []api.Option{text(3, x.data), long(51, 3600)}}, want)
	}
}

func TestWhereImagesAre(t *testing.T) {
	want := hour()
	wantTerms(t, api.DHCP{Options: []api.Option{long(51, 3600)}}, want)
	want.images = other
	wantTerms(t, api.DHCP{Next: other, Options: []api.Option{long(51, 3600)}}, want)
}

func TestAges(t *testing.T) {
	for _, x := range []struct {
		time, old, veryOld uint32
		more               []api.Option
	}{
		{1, 0, 0, nil}, {7, 3, 0, nil}, {8, 4, 7, nil}, {15, 7, 7, nil}, {16, 8, 14, nil}, {3600, 1800, 3150, nil},
		{0xfffffffe, 0x7fffffff, 0xdffffff9, nil},
		{16, 3, 4, []api.Option{long(58, 3), long(59, 4)}},
		{16, 14, 15, []api.Option{long(59, 15), long(58, 14)}},
		{16, 0, 1, []api.Option{long(58, 0), long(59, 1)}},
		{16, 8, 14, []api.Option{long(58, 3)}},
		{16, 8, 14, []api.Option{long(59, 4)}},
		{16, 8, 14, []api.Option{long(58, 4), long(59, 4)}},
		{16, 8, 14, []api.Option{long(58, 5), long(59, 4)}},
		{16, 8, 14, []api.Option{long(58, 3), long(59, 16)}},
		{16, 8, 14, []api.Option{long(58, 3), long(59, 17)}},
		{16, 8, 14, []api.Option{text(58, "\x00\x00\x03"), long(59, 4)}},
		{16, 8, 14, []api.Option{long(58, 3), text(59, "\x00\x00\x00\x00\x04")}},
		{0x80000001, 0x7fffffff, 0x80000000, []api.Option{long(58, 0x7fffffff), long(59, 0x80000000)}},
	} {
		want := hour()
		want.old, want.veryOld, want.over = x.old, x.veryOld, x.time
		wantTerms(t, api.DHCP{Options: append([]api.Option{long(51, x.time)}, x.more...)}, want)
	}
}

func TestTermsWithoutAnEnd(t *testing.T) {
	d := api.DHCP{Options: []api.Option{long(51, 0xffffffff)}}
	if got, told := (reply{d, server}).terms(); !told || got.ends {
		t.Errorf("P7: the terms of ffffffff are %+v, %v", got, told)
	}
}

// An ack is kept with its terms, its server and its time.
func TestAckOfARequest(t *testing.T) {
	m := leased(t, api.Requesting)
	m.comes(t, answer(kindAck, server, long(51, 3600)))
	want := lease{state: api.Probing, xid: 5, address: mine, server: server, granted: 100, terms: hour()}
	if m.lease != want {
		t.Errorf("P7: the lease is %+v, want %+v", m.lease, want)
	}
	if s, ok := m.Take(); !ok || s[12:14] != "\x08\x06" {
		t.Errorf("P7: nobody is asked who has the address: %x", s)
	}
}

// An ack of a lease that grows old: it is Bound again, and nobody is asked who has the address.
func TestAckOfAnOldLease(t *testing.T) {
	for _, state := range []api.Lease{api.Renewing, api.Rebinding} {
		for _, from := range []api.IP{server, other} {
			m := leased(t, state)
			kept := m.lease
			m.comes(t, answer(kindAck, from, long(51, 0)))
			if m.lease != kept {
				t.Errorf("P7: an ack for no time: the lease is %+v", m.lease)
			}
			m.comes(t, answer(kindAck, from, long(51, 3600)))
			want := lease{state: api.Bound, xid: 5, address: mine, server: from, granted: 100, terms: hour()}
			want.terms.images = from
			if state == api.Renewing && from == other {
				want = kept
			}
			if m.lease != want {
				t.Errorf("P7: an ack from %x in %d: the lease is %+v, want %+v", from, state, m.lease, want)
			}
			if s, ok := m.Take(); ok {
				t.Errorf("P7: an ack of an old lease: %x is sent", s)
			}
		}
	}
}

func TestAckOfAnOldLeaseWithAnotherAddress(t *testing.T) {
	for _, state := range []api.Lease{api.Renewing, api.Rebinding} {
		m := leased(t, state)
		m.lease.address = other
		kept := m.lease
		m.comes(t, answer(kindAck, server, long(51, 3600)))
		if m.lease != kept || m.Look().Address != other {
			t.Errorf("P7: an ack with another address: the lease is %+v", m.lease)
		}
	}
}

func TestNakOfAnOldLease(t *testing.T) {
	for _, state := range []api.Lease{api.Renewing, api.Rebinding} {
		for _, from := range []api.IP{server, other} {
			m := leased(t, state)
			m.phase, m.image = api.Loading, []byte("image")
			kept := m.Look()
			m.comes(t, answer(kindNak, from))
			want := api.Look{Now: 100}
			if state == api.Renewing && from == other {
				want = kept
			}
			if got := m.Look(); got != want {
				t.Errorf("P7: a nak from %x in %d: Look() = %+v, want %+v", from, state, got, want)
			}
		}
	}
}

// The machine has its address from Bound on.
func TestAddress(t *testing.T) {
	for state := api.Off; state <= api.Rebinding; state++ {
		want := mine
		if state < api.Bound {
			want = 0
		}
		if l := leased(t, state).Look(); l.Address != want || l.Lease != state {
			t.Errorf("P6: in %d: Look() = %+v", state, l)
		}
	}
}

// In other leases an ack is let be, even one of the lease's own address and server.
func TestAckOfOtherLeases(t *testing.T) {
	for _, state := range []api.Lease{api.Off, api.Selecting, api.Probing, api.Bound} {
		m := leased(t, state)
		kept := m.lease
		m.comes(t, answer(kindAck, server, long(51, 3600)))
		if m.lease != kept {
			t.Errorf("P7: an ack in %d: the lease is %+v, want %+v", state, m.lease, kept)
		}
	}
}

func TestNakOfOtherLeases(t *testing.T) {
	for _, state := range []api.Lease{api.Off, api.Selecting, api.Probing} {
		m := leased(t, state)
		kept := m.lease
		m.comes(t, answer(kindNak, server))
		if m.lease != kept {
			t.Errorf("P7: a nak in %d: the lease is %+v, want %+v", state, m.lease, kept)
		}
	}
}

// What is sent from Bound on says the machine's address.
func TestAddressOfWhatIsSent(t *testing.T) {
	for state := api.Off; state <= api.Rebinding; state++ {
		m := leased(t, state)
		want := m.Look().Address
		m.ask(other)
		m.say(kindRequest)
		s, _ := m.Take()
		f, _ := wire.ReadEther(s)
		if a, e := wire.ReadARP(f.Load); e != api.OK || a != (api.ARP{Op: 1, FromMAC: myCard, FromIP: want, ToIP: other}) {
			t.Errorf("P8: in %d who has an address is asked by %+v, %d", state, a, e)
		}
		s, _ = m.Take()
		f, _ = wire.ReadEther(s)
		p, _ := wire.ReadIP(f.Load)
		u, _ := wire.ReadUDP(p.Load, p.From, p.To)
		if d, e := wire.ReadDHCP(u.Load); e != api.OK || p.From != want || d.Client != want {
			t.Errorf("P7: in %d a message is from %x, of client %x, %d", state, p.From, d.Client, e)
		}
	}
}

// When all is dropped no bytes of an image are left.
func TestDrop(t *testing.T) {
	m := leased(t, api.Bound)
	m.phase, m.image = api.Loading, []byte("image")
	if l := m.Look(); l != (api.Look{Now: 100, Lease: api.Bound, Phase: api.Loading, Address: mine, Bytes: 5}) {
		t.Errorf("P6: Look() = %+v", l)
	}
	m.comes(t, answer(kindNak, server))
	if l := m.Look(); l != (api.Look{Now: 100}) {
		t.Errorf("P6: all is dropped: Look() = %+v", l)
	}
}

// In Done nothing is done any more, and the image is there.
func TestDone(t *testing.T) {
	m := leased(t, api.Bound)
	m.phase, m.image = api.Done, []byte("image")
	for k := range 100 {
		m.Tick(uint32(k))
		m.comes(t, answer(kindNak, server))
		want := api.Look{Now: 101 + k, Lease: api.Bound, Phase: api.Done, Address: mine, Bytes: 5}
		if l := m.Look(); l != want {
			t.Fatalf("P6: Done: Look() = %+v, want %+v", l, want)
		}
		if s, ok := m.Image(); s != "image" || !ok {
			t.Fatalf("P6: Done: Image() = %x, %v", s, ok)
		}
		if s, ok := m.Take(); ok {
			t.Fatalf("P6: Done: %x is sent", s)
		}
	}
}

func TestImageOfOtherPhases(t *testing.T) {
	for _, phase := range []api.Phase{api.Idle, api.Reading, api.Loading, api.Failed} {
		m := leased(t, api.Bound)
		m.phase, m.image = phase, []byte("image")
		if s, ok := m.Image(); s != "" || ok {
			t.Errorf("P6: Image() in %d = %x, %v", phase, s, ok)
		}
	}
}
