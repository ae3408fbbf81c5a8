package boot_test

import (
	"testing"

	"netboot/api"
	"netboot/boot"
)

// Example 7, from Bound on.
func TestServerIsAskedFor(t *testing.T) {
	b := bound(t, config())
	wantLook(t, b, "P8: the server is asked for", looks(3, api.Reading, 0))
	wantOut(t, b, "P8: the server is asked for", asksFor(serverIP))
	wantSent(t, b, "P8: it is told", tells(otherCard, serverIP), sent(2, 69, readOf(config())))
	wantLook(t, b, "P8: it is told", looks(3, api.Reading, 0))
	wantSent(t, b, "P8: it is told again", tells(otherCard, serverIP))
}

// ofDraw: what the machine sends to the server, if its port is by that draw.
func ofDraw(draw uint32, id, port uint16, m api.TFTP) string {
	l := sending(id, port, m)
	l.udp.From = uint16(1024 + draw%60000)
	return l.datagramFrame()
}

// A draw of 2: the read is sent at ticks 3, 6 and 11, so that it does not fall together with what the cache does.
func TestAskedForThreeTimes(t *testing.T) {
	b := bind(t, config(), 2, told(ack, 2))
	wantOut(t, b, "P8: asked for once", asksFor(serverIP))
	for now := 4; now <= 10; now++ {
		b.Tick(2)
		want := looks(now, api.Reading, 0)
		switch {
		case now == 5 || now == 7:
			wantOut(t, b, "P8: asked for again", asksFor(serverIP))
		case now >= 9:
			want.Cached = 0
		}
		wantOut(t, b, "P8: two ticks between")
		wantLook(t, b, "P8: asked for", want)
	}
	wantSent(t, b, "P8: what waits went with it", tells(otherCard, serverIP))
	b.Tick(2)
	wantOut(t, b, "P8: the read asks anew", asksFor(serverIP))
	wantSent(t, b, "P8: the read asks anew", tells(otherCard, serverIP), ofDraw(2, 4, 69, readOf(config())))
	wantLook(t, b, "P8: the read asks anew", looks(11, api.Reading, 0))
}

// What waits is the last packet; the one ahead of it had its ID all the same.
func TestPacketWaitsInsteadOfAnother(t *testing.T) {
	for now := 3; now <= 8; now++ {
		b := bind(t, config(), 2, told(ack, 2))
		ticks(b, now-3, 2)
		allOut(b)
		id := uint16(2)
		if now >= 6 {
			id = 3
		}
		wantSent(t, b, "P8: what waits", tells(otherCard, serverIP), ofDraw(2, id, 69, readOf(config())))
		wantSent(t, b, "P8: nothing waits", tells(otherCard, serverIP))
		for b.Look().Now < 6 {
			b.Tick(2)
		}
		allOut(b)
		ticks(b, 11-b.Look().Now, 2)
		wantOut(t, b, "P8: the card is known", ofDraw(2, 4, 69, readOf(config())))
	}
}

// stay: so many ticks in which the server says something that is answered each time, so that no wait is over.
func stay(t *testing.T, b *boot.Boot, n int) {
	t.Helper()
	for range n {
		b.Tick(theXid)
		comes(t, b, served(serverPort, data(0, "")))
		allOut(b)
	}
}

// Of 60 ticks the server is known at all but the last.
func TestKnownForFreshTicks(t *testing.T) {
	b := loading(t, config())
	for k := uint16(0); b.Look().Now < 62; k++ {
		b.Tick(theXid)
		wantLook(t, b, "P8: a known card", looks(int(k)+4, api.Loading, 0))
		wantSent(t, b, "P8: a known card", served(serverPort, data(0, "")), sent(k+4, serverPort, acks(0)))
	}
	b.Tick(theXid)
	want := looks(63, api.Loading, 0)
	want.Cached = 0
	wantLook(t, b, "P8: the card is known no more", want)
	wantSent(t, b, "P8: the card is known no more", served(serverPort, data(0, "")), asksFor(serverIP))
	wantLook(t, b, "P8: it is asked for anew", looks(63, api.Loading, 0))
	wantSent(t, b, "P8: it is told anew", tells(thirdCard, serverIP), toCard(thirdCard, 4+59, serverPort, acks(0)))
	stay(t, b, 59)
	wantLook(t, b, "P8: known anew", looks(122, api.Loading, 0))
	b.Tick(theXid)
	if l := b.Look(); l.Cached != 0 {
		t.Errorf("P8: known anew: Look() = %+v", l)
	}
}

// toCard: what the machine sends to the server, at another card.
func toCard(card api.MAC, id, port uint16, m api.TFTP) string {
	l := sending(id, port, m)
	l.ether.To = card
	return l.datagramFrame()
}

// At the tick at which the time is up the cache comes ahead of the image.
func TestCacheIsAheadOfTheImage(t *testing.T) {
	b := loading(t, config())
	stay(t, b, 58)
	b.Tick(theXid)
	wantOut(t, b, "P8: a wait")
	b.Tick(theXid)
	wantOut(t, b, "P8: an ack again, and the card is known no more", asksFor(serverIP))
}

// A card that is learned again is known for Fresh ticks from then on.
func TestLearnedAgain(t *testing.T) {
	for _, again := range []string{
		tells(thirdCard, serverIP),
		arpFrame(allCards, thirdCard, api.ARP{Op: 1, FromMAC: thirdCard, FromIP: serverIP, ToIP: otherIP}),
		arpFrame(allCards, thirdCard, api.ARP{Op: 2, FromMAC: thirdCard, FromIP: serverIP}),
		arpFrame(myCard, otherCard, api.ARP{Op: 2, FromMAC: thirdCard, FromIP: serverIP, ToMAC: otherCard, ToIP: serverIP}),
	} {
		b := loading(t, config())
		stay(t, b, 7)
		wantSent(t, b, "P8: learned again", again)
		wantSent(t, b, "P8: learned again", served(serverPort, data(0, "")), toCard(thirdCard, 11, serverPort, acks(0)))
		stay(t, b, 59)
		wantLook(t, b, "P8: learned again", looks(69, api.Loading, 0))
		b.Tick(theXid)
		if l := b.Look(); l.Cached != 0 {
			t.Errorf("P8: learned again: Look() = %+v", l)
		}
	}
}

// Who is in the cache behind an ARP, who is told, and whose card the server's is.
func TestARPThatComes(t *testing.T) {
	for _, x := range []struct {
		what    string
		a       api.ARP
		cached  int
		isTold  bool
		changes bool
	}{
		{"from 0, for me", api.ARP{Op: 1, FromIP: 0, ToIP: myIP}, 1, true, false},
		{"from 0, for another", api.ARP{Op: 1, FromIP: 0, ToIP: otherIP}, 1, false, false},
		{"from 0, told", api.ARP{Op: 2, FromIP: 0, ToIP: myIP}, 1, false, false},
		{"from mine, for me", api.ARP{Op: 1, FromIP: myIP, ToIP: myIP}, 1, true, false},
		{"from mine, for another", api.ARP{Op: 1, FromIP: myIP, ToIP: otherIP}, 1, false, false},
		{"from mine, told", api.ARP{Op: 2, FromIP: myIP, ToIP: myIP}, 1, false, false},
		{"from a new one, for me", api.ARP{Op: 1, FromIP: otherIP, ToIP: myIP}, 2, true, false},
		{"from a new one, for another", api.ARP{Op: 1, FromIP: otherIP, ToIP: serverIP}, 1, false, false},
		{"from a new one, for itself", api.ARP{Op: 1, FromIP: otherIP, ToIP: otherIP}, 1, false, false},
		{"from a new one, for 0", api.ARP{Op: 1, FromIP: otherIP, ToIP: 0}, 1, false, false},
		{"from a new one, told me", api.ARP{Op: 2, FromIP: otherIP, ToIP: myIP}, 1, false, false},
		{"from a new one, told another", api.ARP{Op: 2, FromIP: otherIP, ToIP: serverIP}, 1, false, false},
		{"from everybody, for me", api.ARP{Op: 1, FromIP: toAllIP, ToIP: myIP}, 2, true, false},
		{"from the server, for me", api.ARP{Op: 1, FromIP: serverIP, ToIP: myIP}, 1, true, true},
		{"from the server, for another", api.ARP{Op: 1, FromIP: serverIP, ToIP: otherIP}, 1, false, true},
		{"from the server, for 0", api.ARP{Op: 1, FromIP: serverIP, ToIP: 0}, 1, false, true},
		{"from the server, told me", api.ARP{Op: 2, FromIP: serverIP, ToIP: myIP}, 1, false, true},
		{"from the server, told another", api.ARP{Op: 2, FromIP: serverIP, ToIP: otherIP}, 1, false, true},
	} {
		for _, to := range []api.MAC{myCard, allCards} {
			b := loading(t, config())
			x.a.FromMAC, x.a.ToMAC = thirdCard, otherCard
			comes(t, b, arpFrame(to, otherCard, x.a))
			if x.isTold {
				wantOut(t, b, "P8: ARP "+x.what, isTold(thirdCard, x.a.FromIP))
			}
			wantOut(t, b, "P8: ARP "+x.what)
			want := looks(3, api.Loading, 0)
			want.Cached = x.cached
			wantLook(t, b, "P8: ARP "+x.what, want)
			card := otherCard
			if x.changes {
				card = thirdCard
			}
			wantSent(t, b, "P8: behind ARP "+x.what, served(serverPort, data(0, "")), toCard(card, 4, serverPort, acks(0)))
		}
	}
}

// The one that is asked for asks itself: what waits is sent ahead of what it is told.
func TestTheOneAskedForAsks(t *testing.T) {
	b := bound(t, config())
	allOut(b)
	wantSent(t, b, "P8: the server asks", asksMe(thirdCard, serverIP),
		toCard(thirdCard, 2, 69, readOf(config())), isTold(thirdCard, serverIP))
	b = bound(t, config())
	allOut(b)
	wantSent(t, b, "P8: the server asks for another", arpFrame(allCards, otherCard, api.ARP{Op: 1, FromMAC: otherCard, FromIP: serverIP, ToIP: otherIP}),
		sent(2, 69, readOf(config())))
}

// ARP that is not looked at.
func TestARPThatIsLetBe(t *testing.T) {
	right := asksMe(thirdCard, serverIP)
	for what, f := range map[string]string{
		"to another card": arpFrame(otherCard, thirdCard, api.ARP{Op: 1, FromMAC: thirdCard, FromIP: serverIP, ToIP: myIP}),
		"cut off":         right[:14+27],
		"of op 3":         right[:21] + "\x03" + right[22:],
		"of op 0":         right[:21] + "\x00" + right[22:],
		"of another form": right[:15] + "\x06" + right[16:],
		"of another type": right[:13] + "\x00" + right[14:],
	} {
		b := bound(t, config())
		allOut(b)
		wantSent(t, b, "P8: ARP "+what, f)
		wantLook(t, b, "P8: ARP "+what, looks(3, api.Reading, 0))
		if comes(t, b, right); len(allOut(b)) != 2 {
			t.Errorf("P8: behind ARP %s a right one does other things", what)
		}
	}
}

// As long as the machine has no address nobody is told, and nobody is known.
func TestARPWithoutAnAddress(t *testing.T) {
	for lease := api.Off; lease <= api.Probing; lease++ {
		b := reach(t, lease)
		kept := b.Look()
		for _, op := range []uint16{1, 2} {
			for _, from := range []api.IP{0, serverIP, otherIP} {
				for _, to := range []api.IP{0, myIP, serverIP} {
					comes(t, b, arpFrame(allCards, otherCard, api.ARP{Op: op, FromMAC: otherCard, FromIP: from, ToIP: to}))
				}
			}
		}
		wantLook(t, b, "P8: without an address", kept)
		wantOut(t, b, "P8: without an address")
	}
}

func TestARPInDone(t *testing.T) {
	b := reading(t, config())
	wantSent(t, b, "P9: the image", served(serverPort, data(1, "image")), sent(3, serverPort, acks(1)))
	for range 100 {
		b.Tick(theXid)
		wantSent(t, b, "P6: Done", asksMe(thirdCard, otherIP))
	}
	if l := b.Look(); l != looks(103, api.Done, 5) {
		t.Errorf("P6: Done: Look() = %+v", l)
	}
}

// askMany: neighbours of these addresses ask, one behind the other, and are told.
func askMany(t *testing.T, b *boot.Boot, ips ...api.IP) {
	t.Helper()
	for _, ip := range ips {
		wantSent(t, b, "P8: who asks is told", asksMe(thirdCard, ip), isTold(thirdCard, ip))
	}
}

func wantCached(t *testing.T, b *boot.Boot, what string, n int) {
	t.Helper()
	if l := b.Look(); l.Cached != n {
		t.Fatalf("%s: Look() = %+v, want %d cached", what, l, n)
	}
}

// Who goes when there is no room: the one whose time is up first. Of the server it is seen: what goes to it is sent, or it is asked for.
func TestNoRoom(t *testing.T) {
	for _, x := range []struct {
		what  string
		wait  int // ticks till the others ask
		ips   []api.IP
		stays bool
	}{
		{"room for all", 0, []api.IP{1, 2, 3}, true},
		{"one more, at one time, the server's address is the least", 0, []api.IP{serverIP + 1, serverIP + 2, serverIP + 3, serverIP + 4}, false},
		{"one more, at one time, another address is the least", 0, []api.IP{serverIP + 1, serverIP - 1, serverIP + 3, serverIP + 4}, true},
		{"one more, at one time, the least address comes first", 0, []api.IP{serverIP - 1, serverIP + 1, serverIP + 3, serverIP + 4}, true},
		{"two more, at one time, two addresses are less", 0, []api.IP{1, 2, serverIP + 3, serverIP + 4, serverIP + 5}, true},
		{"two more, at one time, one address is less", 0, []api.IP{1, serverIP + 2, serverIP + 3, serverIP + 4, serverIP + 5}, false},
		{"two more, at one time, the second of them is the least", 0, []api.IP{1, serverIP + 2, serverIP + 3, 2, serverIP + 5}, true},
		{"one more, later", 1, []api.IP{1, 2, 3, 4}, false},
		{"room for all, later", 1, []api.IP{1, 2, 3}, true},
		{"the same again", 1, []api.IP{1, 2, 3, 3, 2, 1}, true},
	} {
		b := loading(t, config())
		stay(t, b, x.wait)
		askMany(t, b, x.ips...)
		wantCached(t, b, "P8: "+x.what, 4)
		comes(t, b, served(serverPort, data(0, "")))
		out := allOut(b)
		if x.stays && out[0] != sent(uint16(4+x.wait), serverPort, acks(0)) {
			t.Errorf("P8: %s: the server is known no more: %x", x.what, out)
		}
		if !x.stays && out[0] != asksFor(serverIP) {
			t.Errorf("P8: %s: the server is still known: %x", x.what, out)
		}
		wantCached(t, b, "P8: "+x.what, 4)
	}
}

// The time of one that is asked for is when it is asked for again: it goes ahead of those that are known, with what waits.
func TestNoRoomForOneThatIsAskedFor(t *testing.T) {
	b := bound(t, config())
	allOut(b)
	askMany(t, b, serverIP-1, serverIP+1, serverIP+2)
	wantCached(t, b, "P8: room for all", 4)
	askMany(t, b, serverIP+3)
	wantCached(t, b, "P8: one more", 4)
	wantSent(t, b, "P8: it has gone, with what waits", tells(otherCard, serverIP))
	ticks(b, 2, theXid)
	wantOut(t, b, "P8: the read again", asksFor(serverIP))
	wantCached(t, b, "P8: the read again", 4)
	wantSent(t, b, "P8: the read again", tells(otherCard, serverIP), sent(3, 69, readOf(config())))
	for b.Look().Now < 62 {
		stay(t, b, 1)
		comes(t, b, served(serverPort, options()))
	}
	allOut(b)
	wantCached(t, b, "P8: known for Fresh ticks", 4)
	stay(t, b, 1)
	wantCached(t, b, "P8: three of them go", 1)
}

// Where a datagram goes: by mask and router.
func TestHops(t *testing.T) {
	const far api.IP = 0x0a000101
	mask := func(n uint32) api.Option { return option(1, fourBytes(n)) }
	router := addressOption(3, routerIP)
	for _, x := range []struct {
		what    string
		next    api.IP
		options []api.Option
		want    api.IP
	}{
		{"no mask, no router", 0, nil, serverIP},
		{"no mask, no router, far", far, nil, far},
		{"no mask, a router", 0, []api.Option{router}, routerIP},
		{"a mask of all bits, a router", 0, []api.Option{mask(0xffffffff), router}, routerIP},
		{"a mask of all bits, no router", 0, []api.Option{mask(0xffffffff)}, serverIP},
		{"a mask of all bits, the machine itself", myIP, []api.Option{mask(0xffffffff), router}, myIP},
		{"a mask of no bits, a router", 0, []api.Option{mask(0), router}, serverIP},
		{"a mask of no bits, a router, far", 0xc0a80001, []api.Option{mask(0), router}, 0xc0a80001},
		{"in the net", 0, []api.Option{mask(0xffffff00), router}, serverIP},
		{"in the net, no router", 0, []api.Option{mask(0xffffff00)}, serverIP},
		{"not in the net", far, []api.Option{mask(0xffffff00), router}, routerIP},
		{"not in the net, no router", far, []api.Option{mask(0xffffff00)}, far},
		{"in a greater net", far, []api.Option{mask(0xfffffe00), router}, far},
		{"the last of the net", 0x0a00003f, []api.Option{mask(0xfffffff0), router}, 0x0a00003f},
		{"behind the last of the net", 0x0a000040, []api.Option{mask(0xfffffff0), router}, routerIP},
		{"ahead of the first of the net", 0x0a00002f, []api.Option{mask(0xfffffff0), router}, routerIP},
		{"the router itself, in the net", routerIP, []api.Option{mask(0xffffff00), router}, routerIP},
		{"the router itself, not in the net", routerIP, []api.Option{router}, routerIP},
		{"a mask of odd bits, in the net", 0x0b010037, []api.Option{mask(0x000000ff), router}, 0x0b010037},
		{"a mask of odd bits, not in the net", 0x0a000036, []api.Option{mask(0x000000ff), router}, routerIP},
		{"a mask of three bytes", 0, []api.Option{option(1, "\xff\xff\xff"), router}, routerIP},
		{"a router of three bytes", 0, []api.Option{option(3, "\x0a\x00\x00")}, serverIP},
		{"router 0", far, []api.Option{mask(0xffffff00), addressOption(3, 0)}, far},
		{"two routers", far, []api.Option{mask(0xffffff00), option(3, fourBytes(uint32(routerIP))+"\x01\x02\x03\x04")}, routerIP},
	} {
		granted := told(ack, theXid)
		granted.message.Next = x.next
		granted.message.Options = append(granted.message.Options, x.options...)
		b := bind(t, config(), theXid, granted)
		wantOut(t, b, "P8: "+x.what, asksFor(x.want))
		if x.want == myIP {
			continue // nobody else tells that
		}
		read := sending(2, 69, readOf(config()))
		read.ether.To = thirdCard
		if x.next != 0 {
			read.ip.To = x.next
		}
		wantSent(t, b, "P8: "+x.what, tells(thirdCard, x.want), read.datagramFrame())
	}
}

// All is dropped while something waits: nothing of it is left, but for the IDs.
func TestDroppedWhileSomethingWaits(t *testing.T) {
	b := bound(t, config())
	allOut(b)
	askMany(t, b, otherIP)
	wantSent(t, b, "P8: all is dropped", told(nak, theXid).frame())
	wantLook(t, b, "P8: all is dropped", api.Look{Now: 3})
	wantSent(t, b, "P8: all is dropped", tells(otherCard, serverIP))
	wantSent(t, b, "P8: all is dropped", asksMe(otherCard, serverIP))
	b.Tick(theXid)
	wantOut(t, b, "P8: all begins again", aDiscover(3, theXid))
	comes(t, b, told(offer, theXid).frame(), told(ack, theXid).frame())
	ticks(b, 2, theXid)
	wantOut(t, b, "P8: all begins again", aRequest(4, theXid), whoHas(), asksFor(serverIP))
	wantSent(t, b, "P8: all begins again", tells(otherCard, serverIP), sent(5, 69, readOf(config())))
	wantLook(t, b, "P8: all begins again", looks(6, api.Reading, 0))
}

// A packet that waited and has no room is lost.
func TestWaitingPacketIsLost(t *testing.T) {
	c := config()
	c.Tx = 1
	b := bound(t, c)
	comes(t, b, tells(otherCard, serverIP))
	wantOut(t, b, "P8: the packet is lost", asksFor(serverIP))
	want := looks(3, api.Reading, 0)
	want.Lost = 3 // a request, an ARP and the packet
	wantLook(t, b, "P8: the packet is lost", want)
	wantSent(t, b, "P8: it waits no more", tells(otherCard, serverIP))
	ticks(b, 2, theXid)
	wantOut(t, b, "P8: the read again", sent(3, 69, readOf(c)))
}
