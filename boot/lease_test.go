package boot_test

import (
	"strings"
	"sync"
	"testing"

	"netboot/api"
	"netboot/boot"
)

// Example 7, up to Bound.
func TestLeaseUpToBound(t *testing.T) {
	b := begin(t, config())
	b.Tick(1)
	wantLook(t, b, "P7: Selecting", api.Look{Now: 1, Lease: api.Selecting})
	wantOut(t, b, "P7: Selecting", aDiscover(0, 1))
	comes(t, b, told(offer, 1).frame())
	wantLook(t, b, "P7: Requesting", api.Look{Now: 1, Lease: api.Requesting})
	wantOut(t, b, "P7: Requesting", aRequest(1, 1))
	comes(t, b, told(ack, 1).frame())
	wantLook(t, b, "P7: Probing", api.Look{Now: 1, Lease: api.Probing})
	wantOut(t, b, "P7: Probing", whoHas())
	b.Tick(1)
	wantLook(t, b, "P7: one tick of Probing", api.Look{Now: 2, Lease: api.Probing})
	wantOut(t, b, "P7: one tick of Probing")
	b.Tick(1)
	if l := b.Look(); l.Lease != api.Bound || l.Address != myIP || l.Boots != 0 || l.Now != 3 {
		t.Errorf("P7: two ticks of Probing: Look() = %+v", l)
	}
}

// The same with answers that come late, and draws that are others at each tick.
func TestLeaseOfLateAnswers(t *testing.T) {
	b := begin(t, config())
	for now := range 10 {
		b.Tick(uint32(now*3 + 7))
	}
	comes(t, b, told(offer, 7).frame())
	for now := range 10 {
		b.Tick(uint32(now*3 + 1))
	}
	comes(t, b, told(ack, 7).frame())
	wantOut(t, b, "P7: late answers", aDiscover(0, 7), aDiscover(1, 7), aDiscover(2, 7), aRequest(3, 7), aRequest(4, 7), aRequest(5, 7), whoHas())
	wantLook(t, b, "P7: late answers", api.Look{Now: 20, Lease: api.Probing})
	ticks(b, 2, 5)
	if l := b.Look(); l.Lease != api.Bound || l.Address != myIP {
		t.Errorf("P7: late answers: Look() = %+v", l)
	}
}

// What comes while Probing makes it no longer.
func TestProbingIsTwoTicks(t *testing.T) {
	b := reach(t, api.Probing)
	b.Tick(theXid)
	comes(t, b, told(ack, theXid).frame(), told(offer, theXid).frame(), told(nak, theXid).frame())
	wantLook(t, b, "P7: Probing", api.Look{Now: 2, Lease: api.Probing})
	wantOut(t, b, "P7: Probing")
	b.Tick(theXid)
	if l := b.Look(); l.Lease != api.Bound {
		t.Errorf("P7: two ticks of Probing: Look() = %+v", l)
	}
}

// Which kind of answer does something in which lease.
func TestKindsInEachLease(t *testing.T) {
	type step struct {
		lease api.Lease
		kind  byte
	}
	does := map[step]api.Lease{
		{api.Selecting, offer}: api.Requesting,
		{api.Requesting, ack}:  api.Probing,
		{api.Requesting, nak}:  api.Off,
		{api.Bound, nak}:       api.Off,
		{api.Renewing, ack}:    api.Bound,
		{api.Renewing, nak}:    api.Off,
		{api.Rebinding, ack}:   api.Bound,
		{api.Rebinding, nak}:   api.Off,
	}
	sent := map[api.Lease]string{api.Requesting: aRequest(1, theXid), api.Probing: whoHas()}
	for lease := api.Off; lease <= api.Rebinding; lease++ {
		for _, kind := range []byte{0, 1, 2, 3, 4, 5, 6, 7, 8, 13, 130, 133, 134, 255} {
			b := reach(t, lease)
			kept := b.Look()
			comes(t, b, told(kind, theXid).frame(), told(kind, 0).frame())
			next, ok := does[step{lease, kind}]
			switch {
			case !ok:
				wantLook(t, b, "P7: an answer of another kind", kept)
				wantOut(t, b, "P7: an answer of another kind")
			case next == api.Off:
				wantLook(t, b, "P7: a nak", api.Look{Now: kept.Now})
				wantOut(t, b, "P7: a nak")
			case next == api.Bound:
				kept.Lease = api.Bound
				wantLook(t, b, "P7: an ack of an old lease", kept)
				wantOut(t, b, "P7: an ack of an old lease")
			default:
				wantLook(t, b, "P7: an answer", api.Look{Now: kept.Now, Lease: next})
				wantOut(t, b, "P7: an answer", sent[next])
			}
		}
	}
}

// An answer may not fit by what is 0 because nothing was offered yet.
func TestAnswersOfAddressZero(t *testing.T) {
	for _, lease := range []api.Lease{api.Off, api.Selecting} {
		for _, kind := range []byte{offer, ack, nak} {
			for _, xid := range []uint32{theXid, 0} {
				b := reach(t, lease)
				kept := b.Look()
				l := told(kind, xid).with(addressOption(54, 0))
				l.message.Yours = 0
				comes(t, b, l.frame())
				wantLook(t, b, "P7: an answer of address 0", kept)
				wantOut(t, b, "P7: an answer of address 0")
			}
		}
	}
}

// answered: in which lease the machine looks at which right answer.
var answered = []struct {
	lease api.Lease
	kind  byte
}{
	{api.Selecting, offer}, {api.Requesting, ack}, {api.Requesting, nak}, {api.Bound, nak},
	{api.Renewing, ack}, {api.Renewing, nak}, {api.Rebinding, ack}, {api.Rebinding, nak},
}

// wantLetBe: a frame does nothing in a lease; a right one behind it does.
func wantLetBe(t *testing.T, what string, lease api.Lease, bad, right string) {
	t.Helper()
	b := reach(t, lease)
	kept := b.Look()
	comes(t, b, bad)
	wantLook(t, b, what, kept)
	wantOut(t, b, what)
	comes(t, b, right)
	if l := b.Look(); l.Lease == lease {
		t.Fatalf("%s: a right answer behind it does nothing: Look() = %+v", what, l)
	}
}

func wantLookedAt(t *testing.T, what string, lease api.Lease, frame string) {
	t.Helper()
	b := reach(t, lease)
	comes(t, b, frame)
	if l := b.Look(); l.Lease == lease {
		t.Fatalf("%s: an answer does nothing: Look() = %+v", what, l)
	}
}

func TestAnswersThatAreLetBe(t *testing.T) {
	for what, change := range map[string]func(l *letter){
		"a frame to another card":        func(l *letter) { l.ether.To = otherCard },
		"a frame to a group of cards":    func(l *letter) { l.ether.To = api.MAC{1, 0, 0x5e, 0, 0, 1} },
		"a frame to card 0":              func(l *letter) { l.ether.To = api.MAC{} },
		"a frame that is nearly to all":  func(l *letter) { l.ether.To[5]-- },
		"a frame of ARP":                 func(l *letter) { l.ether.Type = 0x0806 },
		"a frame of another type":        func(l *letter) { l.ether.Type = 0x86dd },
		"a packet of another Proto":      func(l *letter) { l.ip.Proto = 6 },
		"port 67":                        func(l *letter) { l.udp.To = 67 },
		"port 69":                        func(l *letter) { l.udp.To = 69 },
		"port 68 and 256 times as much":  func(l *letter) { l.udp.To = 68 << 8 },
		"no reply":                       func(l *letter) { l.message.Reply = false },
		"another Xid":                    func(l *letter) { l.message.Xid++ },
		"an Xid of 0":                    func(l *letter) { l.message.Xid = 0 },
		"an Xid with another high bit":   func(l *letter) { l.message.Xid ^= 0x80000000 },
		"another card":                   func(l *letter) { l.message.Card = otherCard },
		"card 0":                         func(l *letter) { l.message.Card = api.MAC{} },
		"all cards":                      func(l *letter) { l.message.Card = allCards },
		"no kind":                        func(l *letter) { *l = l.without(53) },
		"a kind without bytes":           func(l *letter) { *l = l.with(option(53, "")) },
		"a kind of two bytes":            func(l *letter) { *l = l.with(option(53, l.kind()+l.kind())) },
		"a kind of two bytes, the first": func(l *letter) { *l = l.with(option(53, l.kind()+"\x00")) },
		"a kind of two bytes, the last":  func(l *letter) { *l = l.with(option(53, "\x00"+l.kind())) },
		"a kind in two pieces":           func(l *letter) { l.message.Options = append(l.message.Options, option(53, l.kind())) },
		"no server":                      func(l *letter) { *l = l.without(54) },
		"a server without bytes":         func(l *letter) { *l = l.with(option(54, "")) },
		"a server of three bytes":        func(l *letter) { *l = l.with(option(54, "\x0a\x00\x00")) },
		"a server of five bytes":         func(l *letter) { *l = l.with(option(54, fourBytes(uint32(serverIP))+"\x00")) },
		"two servers":                    func(l *letter) { l.message.Options = append(l.message.Options, addressOption(54, serverIP)) },
	} {
		for _, x := range answered {
			l := told(x.kind, theXid)
			change(&l)
			wantLetBe(t, "P7: "+what, x.lease, l.frame(), told(x.kind, theXid).frame())
		}
	}
}

func (l letter) kind() string { return l.message.Options[0].Data }

// Whatever is not asked for may be as it likes.
func TestAnswersThatAreLookedAt(t *testing.T) {
	for what, change := range map[string]func(l *letter){
		"to all cards":               func(l *letter) { l.ether.To = allCards },
		"from card 0":                func(l *letter) { l.ether.From = api.MAC{} },
		"from the machine's card":    func(l *letter) { l.ether.From = myCard },
		"to everybody":               func(l *letter) { l.ip.To = toAllIP },
		"to another address":         func(l *letter) { l.ip.To = otherIP },
		"from another address":       func(l *letter) { l.ip.From = otherIP },
		"between no addresses":       func(l *letter) { l.ip.From, l.ip.To = 0, 0 },
		"a TTL of 1":                 func(l *letter) { l.ip.TTL = 1 },
		"another ID":                 func(l *letter) { l.ip.ID = 0xffff },
		"from another port":          func(l *letter) { l.udp.From = 1067 },
		"from port 68":               func(l *letter) { l.udp.From = 68 },
		"a client's address":         func(l *letter) { l.message.Client = otherIP },
		"a next server":              func(l *letter) { l.message.Next = otherIP },
		"more options":               func(l *letter) { *l = l.with(option(12, strings.Repeat("host", 100))) },
		"options in another order":   func(l *letter) { *l = l.with(l.message.Options[0]) },
		"a kind in a piece of none":  func(l *letter) { l.message.Options = append(l.message.Options, option(53, "")) },
		"a server in several pieces": func(l *letter) { *l = l.inPieces(54) },
	} {
		for _, x := range answered {
			l := told(x.kind, theXid)
			change(&l)
			wantLookedAt(t, "P7: "+what, x.lease, l.frame())
		}
	}
}

// inPieces: the option's data come byte by byte.
func (l letter) inPieces(code uint8) letter {
	for _, o := range l.message.Options {
		if o.Code != code {
			continue
		}
		l = l.without(code)
		for i := range len(o.Data) {
			l.message.Options = append(l.message.Options, option(code, o.Data[i:i+1]))
		}
	}
	return l
}

// A datagram that says no sum, and one in a longer packet, can be read.
func TestAnswersWithoutASum(t *testing.T) {
	for _, x := range answered {
		l := told(x.kind, theXid)
		l.udp.Load, _ = boot.WriteDHCP(l.message)
		datagram, _ := boot.WriteUDP(l.udp, l.ip.From, l.ip.To)
		l.ip.Load = datagram[:6] + "\x00\x00" + datagram[8:]
		wantLookedAt(t, "P7: no sum", x.lease, l.packetFrame())
		l.ip.Load = datagram + "behind"
		wantLookedAt(t, "P7: bytes behind a datagram", x.lease, l.packetFrame())
		l.ip.Load = datagram[:len(datagram)-1]
		wantLetBe(t, "P7: a datagram that is cut off", x.lease, l.packetFrame(), told(x.kind, theXid).frame())
		l.udp.Load = l.udp.Load[:239]
		wantLetBe(t, "P7: a message that is cut off", x.lease, l.datagramFrame(), told(x.kind, theXid).frame())
	}
}

// Each byte of an answer that is another one: only where the frame is from is of no matter.
func TestAnswersWithAWrongByte(t *testing.T) {
	for _, x := range answered {
		right := told(x.kind, theXid).frame()
		for i := range len(right) {
			for _, bits := range []byte{1, 0x80, 0xff} {
				bad := right[:i] + string([]byte{right[i] ^ bits}) + right[i+1:]
				if i >= 6 && i < 12 {
					wantLookedAt(t, "P7: a byte of the sender", x.lease, bad)
				} else {
					wantLetBe(t, "P7: a wrong byte", x.lease, bad, right)
				}
			}
		}
	}
}

func TestAnswersThatAreCutOff(t *testing.T) {
	for _, x := range answered {
		right := told(x.kind, theXid).frame()
		for n := range len(right) {
			wantLetBe(t, "P7: a frame that is cut off", x.lease, right[:n], right)
		}
		wantLookedAt(t, "P7: bytes behind a packet", x.lease, right+"behind")
		wantLetBe(t, "P7: a frame that is too long", x.lease, right+strings.Repeat("\x00", 1515-len(right)), right)
		wantLookedAt(t, "P7: a frame as long as may be", x.lease, right+strings.Repeat("\x00", 1514-len(right)))
	}
}

func TestOffers(t *testing.T) {
	none := told(offer, theXid)
	none.message.Yours = 0
	wantLetBe(t, "P7: an offer of address 0", api.Selecting, none.frame(), told(offer, theXid).frame())
	wantLookedAt(t, "P7: an offer without a time", api.Selecting, told(offer, theXid).without(51).frame())

	b := reach(t, api.Selecting)
	one := told(offer, theXid).with(addressOption(54, 0x01020304))
	one.message.Yours = 0xfffefdfc
	comes(t, b, one.frame(), told(offer, theXid).frame())
	wantOut(t, b, "P7: the first of two offers", said(1, theXid, kindOption(request), addressOption(50, 0xfffefdfc), addressOption(54, 0x01020304), option(55, wants)))
	wantLook(t, b, "P7: the first of two offers", api.Look{Now: 1, Lease: api.Requesting})
	ticks(b, 2, 1)
	wantOut(t, b, "P7: the first of two offers, again", said(2, theXid, kindOption(request), addressOption(50, 0xfffefdfc), addressOption(54, 0x01020304), option(55, wants)))
	ackOfOther := told(ack, theXid)
	comes(t, b, ackOfOther.frame())
	wantLook(t, b, "P7: an ack of the other server", api.Look{Now: 3, Lease: api.Requesting})
	one.message.Options = told(ack, theXid).with(addressOption(54, 0x01020304)).message.Options
	comes(t, b, one.frame())
	wantOut(t, b, "P7: the ack", arpFrame(allCards, myCard, api.ARP{Op: 1, FromMAC: myCard, ToIP: 0xfffefdfc}))
	ticks(b, 2, 1)
	if l := b.Look(); l.Lease != api.Bound || l.Address != 0xfffefdfc {
		t.Errorf("P7: another address: Look() = %+v", l)
	}
}

// Addresses that are odd, but not ruled out.
func TestOffersOfOddAddresses(t *testing.T) {
	for _, x := range [][2]api.IP{{1, 0}, {0xffffffff, 0xffffffff}, {7, 7}} {
		b := reach(t, api.Selecting)
		o, a := told(offer, theXid).with(addressOption(54, x[1])), told(ack, theXid).with(addressOption(54, x[1]))
		o.message.Yours, a.message.Yours = x[0], x[0]
		comes(t, b, o.frame(), a.frame())
		ticks(b, 2, 1)
		if l := b.Look(); l.Lease != api.Bound || l.Address != x[0] {
			t.Errorf("P7: an offer of %x by %x: Look() = %+v", x[0], x[1], l)
		}
	}
}

func TestAcks(t *testing.T) {
	for what, change := range map[string]func(l *letter){
		"another address":       func(l *letter) { l.message.Yours = otherIP },
		"address 0":             func(l *letter) { l.message.Yours = 0 },
		"another server":        func(l *letter) { *l = l.with(addressOption(54, otherIP)) },
		"no time":               func(l *letter) { *l = l.without(51) },
		"a time without bytes":  func(l *letter) { *l = l.with(option(51, "")) },
		"a time of three bytes": func(l *letter) { *l = l.with(option(51, "\x00\x0e\x10")) },
		"a time of five bytes":  func(l *letter) { *l = l.with(option(51, "\x00\x00\x00\x0e\x10")) },
		"a time of eight bytes": func(l *letter) { l.message.Options = append(l.message.Options, option(51, fourBytes(60))) },
		"a time of 0":           func(l *letter) { *l = l.with(option(51, fourBytes(0))) },
	} {
		l := told(ack, theXid)
		change(&l)
		for _, lease := range []api.Lease{api.Requesting, api.Renewing, api.Rebinding} {
			if lease == api.Rebinding && what == "another server" {
				wantLookedAt(t, "P7: an ack of any server", lease, l.frame())
			} else {
				wantLetBe(t, "P7: an ack with "+what, lease, l.frame(), told(ack, theXid).frame())
			}
		}
	}
	for what, change := range map[string]func(l *letter){
		"a time of 1":             func(l *letter) { *l = l.with(option(51, fourBytes(1))) },
		"a time without an end":   func(l *letter) { *l = l.with(option(51, fourBytes(0xffffffff))) },
		"the longest time":        func(l *letter) { *l = l.with(option(51, fourBytes(0xfffffffe))) },
		"58 and 59 in order":      func(l *letter) { *l = l.with(option(58, fourBytes(1))).with(option(59, fourBytes(2))) },
		"58 and 59 out of order":  func(l *letter) { *l = l.with(option(58, fourBytes(2))).with(option(59, fourBytes(1))) },
		"58 and 59 of odd length": func(l *letter) { *l = l.with(option(58, "")).with(option(59, "12345")) },
		"a mask":                  func(l *letter) { *l = l.with(option(1, "\xff\xff\xff\x00")) },
		"a mask of odd length":    func(l *letter) { *l = l.with(option(1, "\xff")) },
		"a router":                func(l *letter) { *l = l.with(addressOption(3, otherIP)) },
		"a router of odd length":  func(l *letter) { *l = l.with(option(3, "\x0a\x00")) },
		"two routers":             func(l *letter) { *l = l.with(option(3, "\x0a\x00\x00\x02\x0a\x00\x00\x03")) },
		"where images are":        func(l *letter) { l.message.Next = otherIP },
	} {
		b := reach(t, api.Requesting)
		l := told(ack, theXid)
		change(&l)
		comes(t, b, l.frame())
		wantLook(t, b, "P7: an ack with "+what, api.Look{Now: 1, Lease: api.Probing})
		wantOut(t, b, "P7: an ack with "+what, whoHas())
		for _, lease := range []api.Lease{api.Renewing, api.Rebinding} {
			b := reach(t, lease)
			want := b.Look()
			want.Lease = api.Bound
			comes(t, b, l.frame())
			wantLook(t, b, "P7: an ack of an old lease with "+what, want)
			wantOut(t, b, "P7: an ack of an old lease with "+what)
		}
	}
}

func TestNaks(t *testing.T) {
	other := told(nak, theXid).with(addressOption(54, otherIP))
	wantLookedAt(t, "P7: a nak of any server", api.Rebinding, other.frame())
	for _, lease := range []api.Lease{api.Requesting, api.Bound, api.Renewing, api.Rebinding} {
		if lease != api.Rebinding {
			wantLetBe(t, "P7: a nak of another server", lease, other.frame(), told(nak, theXid).frame())
		}
		b := reach(t, lease)
		now := b.Look().Now
		bare := told(nak, theXid).without(51)
		bare.message.Yours = 0
		comes(t, b, bare.frame())
		wantLook(t, b, "P7: a nak", api.Look{Now: now})
		wantOut(t, b, "P7: a nak")
		comes(t, b, told(offer, theXid).frame(), told(ack, theXid).frame())
		wantLook(t, b, "P7: answers behind a nak", api.Look{Now: now})
		b.Tick(77)
		wantLook(t, b, "P7: a tick behind a nak", api.Look{Now: now + 1, Lease: api.Selecting})
		if out := allOut(b); len(out) != 1 || out[0][42:] != aDiscover(0, 77)[42:] {
			t.Errorf("P7: a tick behind a nak sends %x", out)
		}
		comes(t, b, told(offer, theXid).frame())
		wantLook(t, b, "P7: an offer for what was dropped", api.Look{Now: now + 1, Lease: api.Selecting})
		comes(t, b, told(offer, 77).frame())
		wantLook(t, b, "P7: an offer anew", api.Look{Now: now + 1, Lease: api.Requesting})
	}
}

// A nak is no failure: any number of them may come.
func TestNaksAreNoFailures(t *testing.T) {
	b := begin(t, config())
	for now := 1; now <= 20; now++ {
		b.Tick(theXid)
		comes(t, b, told(offer, theXid).frame(), told(nak, theXid).frame())
		wantLook(t, b, "P7: a nak", api.Look{Now: now})
		allOut(b)
	}
}

func TestConflicts(t *testing.T) {
	for _, op := range []uint16{1, 2} {
		for _, a := range []api.ARP{
			{Op: op, FromMAC: otherCard, FromIP: myIP, ToMAC: myCard, ToIP: myIP},
			{Op: op, FromMAC: otherCard, FromIP: myIP, ToIP: otherIP},
			{Op: op, FromIP: myIP},
			{Op: op, FromMAC: allCards, FromIP: myIP},
		} {
			for _, to := range []api.MAC{myCard, allCards} {
				for _, from := range []api.MAC{otherCard, myCard} {
					for wait := range 2 {
						b := reach(t, api.Probing)
						ticks(b, wait, theXid)
						comes(t, b, arpFrame(to, from, a))
						wantOut(t, b, "P7: a conflict", aDecline(2, theXid))
						wantLook(t, b, "P7: a conflict", api.Look{Now: 1 + wait, Boots: 1})
						comes(t, b, arpFrame(to, from, a))
						wantOut(t, b, "P7: a conflict behind it")
						b.Tick(5)
						wantOut(t, b, "P7: all begins again", aDiscover(3, 5))
						wantLook(t, b, "P7: all begins again", api.Look{Now: 2 + wait, Boots: 1, Lease: api.Selecting})
					}
				}
			}
		}
	}
}

func TestNoConflicts(t *testing.T) {
	conflict := api.ARP{Op: 1, FromMAC: otherCard, FromIP: myIP, ToIP: myIP}
	load, _ := boot.WriteARP(conflict)
	ip, _ := boot.WriteEther(api.Ether{To: allCards, From: otherCard, Type: 0x0800, Load: load})
	for what, f := range map[string]string{
		"from the same card":        arpFrame(allCards, otherCard, api.ARP{Op: 1, FromMAC: myCard, FromIP: myIP, ToIP: myIP}),
		"from the same card, told":  arpFrame(myCard, otherCard, api.ARP{Op: 2, FromMAC: myCard, FromIP: myIP, ToIP: myIP}),
		"from another address":      arpFrame(allCards, otherCard, api.ARP{Op: 1, FromMAC: otherCard, FromIP: otherIP, ToIP: myIP}),
		"from address 0":            arpFrame(allCards, otherCard, api.ARP{Op: 1, FromMAC: otherCard, ToIP: myIP}),
		"told from another address": arpFrame(myCard, otherCard, api.ARP{Op: 2, FromMAC: otherCard, FromIP: serverIP, ToMAC: myCard, ToIP: myIP}),
		"to another card":           arpFrame(otherCard, otherCard, conflict),
		"in a packet's frame":       ip,
		"cut off":                   arpFrame(allCards, otherCard, conflict)[:14+27],
		"of a wrong op":             arpFrame(allCards, otherCard, conflict)[:21] + "\x03" + arpFrame(allCards, otherCard, conflict)[22:],
		"of another form":           arpFrame(allCards, otherCard, conflict)[:15] + "\x06" + arpFrame(allCards, otherCard, conflict)[16:],
	} {
		b := reach(t, api.Probing)
		comes(t, b, f)
		wantOut(t, b, "P7: an ARP "+what)
		wantLook(t, b, "P7: an ARP "+what, api.Look{Now: 1, Lease: api.Probing})
		ticks(b, 2, 1)
		if l := b.Look(); l.Lease != api.Bound || l.Address != myIP {
			t.Errorf("P7: an ARP %s: Look() = %+v", what, l)
		}
	}
}

// Only while Probing does it matter who has the address.
func TestConflictsInOtherLeases(t *testing.T) {
	conflict := arpFrame(allCards, otherCard, api.ARP{Op: 2, FromMAC: otherCard, FromIP: myIP, ToIP: otherIP})
	for _, lease := range []api.Lease{api.Off, api.Selecting, api.Requesting, api.Bound, api.Renewing, api.Rebinding} {
		b := reach(t, lease)
		kept := b.Look()
		comes(t, b, conflict)
		wantLook(t, b, "P7: a conflict in another lease", kept)
		wantOut(t, b, "P7: a conflict in another lease")
	}
}

// An ARP as short as may be, and one with bytes behind it.
func TestConflictLengths(t *testing.T) {
	conflict := arpFrame(allCards, otherCard, api.ARP{Op: 2, FromMAC: otherCard, FromIP: myIP})
	for _, f := range []string{conflict[:14+28], conflict, conflict + strings.Repeat("\xff", 1000)} {
		b := reach(t, api.Probing)
		comes(t, b, f)
		wantLook(t, b, "P7: a conflict", api.Look{Now: 1, Boots: 1})
	}
}

// Conflicts fail attempts, up to the last.
func TestConflictsUpToFailed(t *testing.T) {
	b := begin(t, config())
	conflict := arpFrame(allCards, otherCard, api.ARP{Op: 2, FromMAC: otherCard, FromIP: myIP})
	for k := 1; k <= 3; k++ {
		b.Tick(9)
		comes(t, b, told(offer, 9).frame(), told(ack, 9).frame(), conflict)
		want := api.Look{Now: k, Boots: k}
		if k == 3 {
			want.Phase = api.Failed
		}
		wantLook(t, b, "P7: conflicts", want)
		if n := len(allOut(b)); n != 4 {
			t.Errorf("P7: conflicts: %d frames, want 4", n)
		}
	}
}

// play: a boot of a draw, and all that is seen of it.
func play(b *boot.Boot, draw uint32, step int) []string {
	xid := draw + uint32(step-step%4)
	switch step % 4 {
	case 0:
		b.Tick(xid)
	case 1:
		b.Put(told(offer, xid).frame())
	case 2:
		b.Put(told(ack, xid).frame())
		b.Put(noise(int64(step), 60))
	case 3:
		b.Put(arpFrame(allCards, otherCard, api.ARP{Op: 1, FromMAC: otherCard, FromIP: myIP + api.IP(draw%2)}))
	}
	b.Poll(2)
	return allOut(b)
}

func playAlone(t *testing.T, draw uint32, steps int) ([]string, api.Look) {
	b := begin(t, config())
	var out []string
	for step := range steps {
		out = append(out, play(b, draw, step)...)
	}
	return out, b.Look()
}

func TestMachinesSideBySide(t *testing.T) {
	const steps = 40
	var together []*boot.Boot
	for range 6 {
		together = append(together, begin(t, config()))
	}
	out := make([][]string, len(together))
	for step := range steps {
		for k, b := range together {
			out[k] = append(out[k], play(b, uint32(k), step)...)
		}
	}
	var all sync.WaitGroup
	for k, b := range together {
		all.Go(func() {
			want, look := playAlone(t, uint32(k), steps)
			if strings.Join(out[k], "|") != strings.Join(want, "|") || b.Look() != look {
				t.Errorf("P1: machine %d does other things beside others: %+v, alone %+v", k, b.Look(), look)
			}
		})
	}
	all.Wait()
}

// Frames of any bytes, in each lease: nothing is sent, nothing becomes of them.
func TestFramesOfAnyBytes(t *testing.T) {
	for lease := api.Off; lease <= api.Rebinding; lease++ {
		b := reach(t, lease)
		kept := b.Look()
		toMe := string(myCard[:]) + string(otherCard[:])
		for _, s := range odd() {
			comes(t, b, s, toMe+"\x08\x00"+s)
		}
		for n := range 400 {
			comes(t, b, toMe+"\x08\x00"+noise(int64(n), n), toMe+"\x08\x06"+noise(int64(n), n))
			comes(t, b, toMe+"\x08\x00"+ipLong(20+n)+noise(int64(n), n), toMe+"\x08\x06"+arpFirst+noise(int64(n), n))
		}
		wantLook(t, b, "P7: frames of any bytes", kept)
		wantOut(t, b, "P7: frames of any bytes")
	}
}
