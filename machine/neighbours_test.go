package machine

import (
	"slices"
	"testing"

	"netboot/api"
	"netboot/wire"
)

// What is seen best from inside: several neighbours that are asked for at once, and who of them goes.

func (m *Machine) datagramTo(addresses ...api.IP) {
	for _, a := range addresses {
		m.sendToNeighbour(a, api.UDP{From: 1, To: 2, Load: "hello"})
	}
}

// neighbourly: a machine at time 100 that may send to any address.
func neighbourly(t *testing.T) *Machine {
	t.Helper()
	m, e := New(api.Config{Card: myCard, Name: "k", Cap: 1, Digest: "12345678901234567890123456789012", Block: 8, Window: 1, Rx: 16, Tx: 16})
	if e != api.OK {
		t.Fatalf("P6: New: %d", e)
	}
	m.now = 100
	m.lease = lease{state: api.Bound, address: mine, server: server}
	return m
}

func (m *Machine) ticks(n int) {
	for range n {
		m.Tick(1)
	}
}

func wantAddresses(t *testing.T, m *Machine, what string, want ...api.IP) {
	t.Helper()
	var got []api.IP
	for address := range m.cache {
		got = append(got, address)
	}
	slices.Sort(got)
	if !slices.Equal(got, want) || m.Look().Cached != len(want) {
		t.Errorf("P8: %s: cached are %d, want %d", what, got, want)
	}
}

// wantAsked: what is sent asks for these addresses, in this order, and nothing else.
func wantAsked(t *testing.T, m *Machine, what string, want ...api.IP) {
	t.Helper()
	var got []api.IP
	for {
		s, ok := m.Take()
		if !ok {
			break
		}
		f, _ := wire.ReadEther(s)
		a, e := wire.ReadARP(f.Load)
		if e != api.OK || f.To != allCards || f.Type != typeARP || a != (api.ARP{Op: 1, FromMAC: myCard, FromIP: mine, ToIP: a.ToIP}) {
			t.Fatalf("P8: %s: %x is sent", what, s)
		}
		got = append(got, a.ToIP)
	}
	if !slices.Equal(got, want) {
		t.Errorf("P8: %s: asked for %d, want %d", what, got, want)
	}
}

func tellFrame(op uint16, from byte, address, to api.IP) string {
	a := api.ARP{Op: op, FromMAC: api.MAC{2, 1, 1, 1, 1, from}, FromIP: address, ToIP: to}
	return made(wire.WriteEther(api.Ether{To: allCards, Type: typeARP, Load: made(wire.WriteARP(a))}))
}

// Those whose time is up at one tick are asked for again with rising addresses, in whatever order they came.
func TestAskedAgainInOrder(t *testing.T) {
	for range 50 {
		m := neighbourly(t)
		m.datagramTo(0xfffffffe, 7, 0x80000000, 3)
		wantAsked(t, m, "at first", 0xfffffffe, 7, 0x80000000, 3)
		m.ticks(1)
		wantAsked(t, m, "one tick later")
		m.ticks(1)
		wantAsked(t, m, "two ticks later", 3, 7, 0x80000000, 0xfffffffe)
		m.comes(t, tellFrame(2, 7, 7, mine))
		m.Take()
		m.ticks(2)
		wantAsked(t, m, "four ticks later", 3, 0x80000000, 0xfffffffe)
		m.ticks(1)
		wantAsked(t, m, "five ticks later")
		wantAddresses(t, m, "five ticks later", 3, 7, 0x80000000, 0xfffffffe)
		m.datagramTo(3)
		m.ticks(1)
		wantAsked(t, m, "six ticks later")
		wantAddresses(t, m, "six ticks later", 7)
	}
}

// At one tick some go, and others are asked for again.
func TestTimesUpAtOneTick(t *testing.T) {
	m := neighbourly(t)
	m.comes(t, tellFrame(1, 1, 5, mine)) // till 160
	m.Take()
	m.ticks(54)
	m.datagramTo(6) // at 154, 156 and 158; till 160
	m.ticks(4)
	m.datagramTo(4, 3) // at 158, 160
	wantAsked(t, m, "so far", 6, 6, 6, 4, 3)
	m.ticks(1)
	wantAddresses(t, m, "one tick ahead", 3, 4, 5, 6)
	m.ticks(1)
	wantAddresses(t, m, "all times are up", 3, 4)
	wantAsked(t, m, "all times are up", 3, 4)
}

// Each packet waits for its own neighbour.
func TestWhatWaitsForEach(t *testing.T) {
	m := neighbourly(t)
	m.datagramTo(3, 4, 3, 5) // packets 0 to 3
	wantAsked(t, m, "three", 3, 4, 5)
	for _, x := range []struct {
		address api.IP
		id      byte
	}{{5, 3}, {3, 2}, {4, 1}} {
		m.comes(t, tellFrame(2, byte(x.address), x.address, other))
		s, ok := m.Take()
		f, _ := wire.ReadEther(s)
		p, e := wire.ReadIP(f.Load)
		if !ok || e != api.OK || f.To != (api.MAC{2, 1, 1, 1, 1, byte(x.address)}) || p.To != x.address || p.ID != uint16(x.id) {
			t.Errorf("P8: what waits for %d: %x", x.address, s)
		}
	}
	if s, ok := m.Take(); ok {
		t.Errorf("P8: %x is sent", s)
	}
}

// Who goes where there is no room.
func TestWhoGoes(t *testing.T) {
	m := neighbourly(t)
	m.datagramTo(9, 8, 7, 6)
	m.datagramTo(5)
	wantAddresses(t, m, "asked for at one time: the least goes", 5, 7, 8, 9)
	m.datagramTo(6)
	wantAddresses(t, m, "again the least", 6, 7, 8, 9)
	m.ticks(1)
	m.datagramTo(1)
	wantAddresses(t, m, "a new one is not the first", 1, 7, 8, 9)
	m.datagramTo(2)
	wantAddresses(t, m, "the oldest goes, not the least", 1, 2, 8, 9)
	m.comes(t, tellFrame(2, 8, 8, other))
	m.datagramTo(3)
	wantAddresses(t, m, "one that is known stays longer", 1, 2, 3, 8)
	m.ticks(1)
	m.datagramTo(4, 5, 6)
	wantAddresses(t, m, "those that are asked for go first", 4, 5, 6, 8)
	m.comes(t, tellFrame(1, 10, 10, mine))
	wantAddresses(t, m, "also for one that asks", 5, 6, 8, 10)
	m.comes(t, tellFrame(1, 11, 11, mine))
	m.comes(t, tellFrame(1, 12, 12, mine))
	wantAddresses(t, m, "also for one that asks", 8, 10, 11, 12)
	m.comes(t, tellFrame(1, 2, 2, mine))
	wantAddresses(t, m, "the one that is known for the longest time goes", 2, 10, 11, 12)
	m.comes(t, tellFrame(1, 13, 13, mine))
	wantAddresses(t, m, "known at one time: the least goes", 10, 11, 12, 13)
	m.comes(t, tellFrame(2, 14, 14, mine))
	m.comes(t, tellFrame(1, 14, 14, other))
	m.comes(t, tellFrame(1, 10, 10, mine))
	wantAddresses(t, m, "nobody goes for nobody", 10, 11, 12, 13)
}

// A time that was up later since it was asked for again.
func TestWhoGoesBehindAnotherAsk(t *testing.T) {
	m := neighbourly(t)
	m.datagramTo(1) // till 102, then till 104
	m.ticks(1)
	m.datagramTo(7, 8, 9) // till 103
	m.ticks(1)
	m.datagramTo(2)
	wantAddresses(t, m, "asked for again", 1, 2, 8, 9)
}

// A packet to one that is asked for, or known, changes nothing of its time.
func TestDatagramsLeaveTheTime(t *testing.T) {
	m := neighbourly(t)
	m.datagramTo(3)
	m.ticks(1)
	m.datagramTo(3)
	wantAsked(t, m, "at first", 3)
	m.ticks(1)
	wantAsked(t, m, "two ticks later", 3)
	m.comes(t, tellFrame(2, 3, 3, mine)) // at 102
	m.ticks(30)
	m.datagramTo(3)
	m.ticks(29)
	wantAddresses(t, m, "59 ticks later", 3)
	m.ticks(1)
	wantAddresses(t, m, "60 ticks later")
}

// When all is dropped the cache is empty, and what waits is gone.
func TestDropOfNeighbours(t *testing.T) {
	for what, drops := range map[string]func(m *Machine){"drop": (*Machine).drop, "fail": (*Machine).fail} {
		m := neighbourly(t)
		m.datagramTo(3, 4)
		m.comes(t, tellFrame(2, 4, 4, mine))
		m.askForImage()
		m.image = []byte("image")
		drops(m)
		wantAddresses(t, m, what)
		for range 4 { // three that ask, and what waited
			m.Take()
		}
		m.comes(t, tellFrame(2, 3, 3, mine))
		wantAsked(t, m, what)
		if m.fetch != (fetch{}) || m.image != nil {
			t.Errorf("P6: %s: of an image is left %+v", what, m.fetch)
		}
	}
}

// The cache of one machine is not another's.
func TestCachesApart(t *testing.T) {
	one, two := neighbourly(t), neighbourly(t)
	one.datagramTo(3)
	two.datagramTo(4, 5)
	wantAddresses(t, one, "one", 3)
	wantAddresses(t, two, "two", 4, 5)
	one.drop()
	wantAddresses(t, one, "one, dropped")
	wantAddresses(t, two, "two", 4, 5)
}
