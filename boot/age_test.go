package boot_test

import (
	"slices"
	"testing"
	"unsafe"

	"netboot/api"
	"netboot/boot"
)

// renewing: a lease is asked for of its server, and all around it.
func renewing(id uint16) letter {
	return letter{
		ether:   api.Ether{To: otherCard, From: myCard, Type: 0x0800},
		ip:      api.IPv4{ID: id, TTL: 64, Proto: 17, From: myIP, To: serverIP},
		udp:     api.UDP{From: 68, To: 67},
		message: api.DHCP{Xid: theXid, Client: myIP, Card: myCard, Options: []api.Option{kindOption(request), option(55, wants)}},
	}
}

func aRenewal(id uint16) string { return renewing(id).frame() }

// aRebinding: it is asked for of all.
func aRebinding(id uint16) string {
	l := renewing(id)
	l.ether.To, l.ip.To = allCards, toAllIP
	return l.frame()
}

// aging: a machine that loads an image, and the ID of its next packet.
type aging struct {
	*boot.Boot
	id uint16
}

// age: a machine at tick 3 whose lease was granted at tick 1.
func age(t *testing.T, granted letter) *aging {
	t.Helper()
	b := bind(t, config(), theXid, granted)
	comes(t, b, tells(otherCard, serverIP), served(serverPort, options()))
	allOut(b)
	return &aging{b, 4}
}

// tick: the lease is so far then, and just this is said by DHCP. Behind it the server shows itself and is answered, so that its card stays known and no wait is over; and something comes that says nothing.
func (a *aging) tick(t *testing.T, what string, lease api.Lease, says ...func(uint16) string) {
	t.Helper()
	want := a.Look()
	a.Tick(theXid)
	var frames []string
	for _, say := range says {
		frames = append(frames, say(a.id))
		a.id++
	}
	wantOut(t, a.Boot, what, frames...)
	want.Now++
	want.Lease = lease
	wantLook(t, a.Boot, what, want)
	wantSent(t, a.Boot, what, string(myCard[:])+string(otherCard[:])+"\x08\x00"+noise(int64(want.Now), want.Now%400))
	wantSent(t, a.Boot, what, tells(otherCard, serverIP))
	wantSent(t, a.Boot, what, served(serverPort, data(0, "")), sent(a.id, serverPort, acks(0)))
	a.id++
}

// until: ticks up to that one, in which nothing is said by DHCP.
func (a *aging) until(t *testing.T, what string, lease api.Lease, now int) {
	t.Helper()
	for a.Look().Now < now {
		a.tick(t, what, lease)
	}
}

// ages: the ticks at which a lease is Renewing, Rebinding and over, as nobody answers; 0: it never is.
type ages struct{ renewing, rebinding, over int }

// growOld: from Bound on, up to what begins when all is dropped.
func (a *aging) growOld(t *testing.T, what string, x ages) {
	t.Helper()
	lease, say, asked := api.Bound, aRenewal, 0
	for now := a.Look().Now + 1; now < x.over; now++ {
		switch now {
		case x.rebinding:
			lease, say, asked = api.Rebinding, aRebinding, now
		case x.renewing:
			lease, asked = api.Renewing, now
		}
		if asked > 0 && (now-asked)%8 == 0 {
			a.tick(t, what, lease, say)
		} else {
			a.tick(t, what, lease)
		}
	}
	a.Tick(theXid)
	wantOut(t, a.Boot, what+", over")
	wantLook(t, a.Boot, what+", over", api.Look{Now: x.over})
	a.Tick(theXid)
	wantOut(t, a.Boot, what+", behind it", aDiscover(a.id, theXid))
	wantLook(t, a.Boot, what+", behind it", api.Look{Now: x.over + 1, Lease: api.Selecting})
}

// Example 10, and other times. (The ack is at tick 1; up to tick 3 the lease is not Bound.)
func TestAgesOfLeases(t *testing.T) {
	for time, want := range map[uint32]ages{
		1: {0, 0, 4}, 2: {0, 0, 4}, 3: {0, 0, 4}, 4: {0, 4, 5}, 5: {0, 4, 6}, 6: {0, 4, 7}, 7: {0, 4, 8},
		8: {5, 8, 9}, 9: {5, 8, 10}, 10: {6, 8, 11}, 13: {7, 8, 14}, 14: {0, 8, 15}, 15: {0, 8, 16},
		16: {9, 15, 17}, 17: {9, 15, 18}, 20: {11, 15, 21}, 23: {12, 15, 24}, 24: {13, 22, 25}, 31: {16, 22, 32}, 32: {17, 29, 33},
		39: {20, 29, 40}, 40: {21, 36, 41}, 63: {32, 50, 64}, 64: {33, 57, 65}, 100: {51, 85, 101}, 255: {128, 218, 256}, 256: {129, 225, 257},
		3600: {1801, 3151, 3601},
	} {
		age(t, leaseOf(time)).growOld(t, "P10: a lease of "+decimal(int(time)), want)
	}
}

func TestAgesThatAreTold(t *testing.T) {
	usual := ages{9, 15, 17}
	for _, x := range []struct {
		what    string
		granted letter
		want    ages
	}{
		{"58 and 59", leaseOf(100, 8, 20), ages{9, 21, 101}},
		{"later than usual", leaseOf(16, 14, 15), ages{15, 16, 17}},
		{"one behind the other", leaseOf(16, 3, 4), ages{4, 5, 17}},
		{"both gone by when it is Bound", leaseOf(16, 1, 2), ages{0, 4, 17}},
		{"both just come when it is Bound", leaseOf(16, 2, 3), ages{0, 4, 17}},
		{"old from the first", leaseOf(16, 0, 15), ages{4, 16, 17}},
		{"very old from the first", leaseOf(16, 0, 1), ages{0, 4, 17}},
		{"seven ticks of Renewing", leaseOf(40, 10, 17), ages{11, 18, 41}},
		{"eight ticks of Renewing", leaseOf(40, 10, 18), ages{11, 19, 41}},
		{"nine ticks of Renewing", leaseOf(40, 10, 19), ages{11, 20, 41}},
		{"seven ticks of Rebinding", leaseOf(40, 10, 33), ages{11, 34, 41}},
		{"eight ticks of Rebinding", leaseOf(40, 10, 32), ages{11, 33, 41}},
		{"nine ticks of Rebinding", leaseOf(40, 10, 31), ages{11, 32, 41}},
		{"58 is 59", leaseOf(16, 4, 4), usual},
		{"58 is above 59", leaseOf(16, 5, 4), usual},
		{"59 is 51", leaseOf(16, 3, 16), usual},
		{"59 is above 51", leaseOf(16, 3, 17), usual},
		{"59 is far above 51", leaseOf(16, 3, 0xfffffffd), usual},
		{"both are above 51", leaseOf(16, 17, 18), usual},
		{"both are 0", leaseOf(16, 0, 0), usual},
		{"58 alone", leaseOf(16, 3), usual},
		{"59 alone", leaseOf(16, 3, 4).without(58), usual},
		{"58 of three bytes", leaseOf(16, 3, 4).with(option(58, "\x00\x00\x03")), usual},
		{"59 of five bytes", leaseOf(16, 3, 4).with(option(59, "\x00\x00\x00\x00\x04")), usual},
		{"58 without bytes", leaseOf(16, 3, 4).with(option(58, "")), usual},
		{"58 in pieces", leaseOf(16, 3, 4).inPieces(58), ages{4, 5, 17}},
		{"51 in pieces", leaseOf(16, 3, 4).inPieces(51), ages{4, 5, 17}},
	} {
		age(t, x.granted).growOld(t, "P10: "+x.what, x.want)
	}
}

func TestLeaseWithoutAnEnd(t *testing.T) {
	for _, granted := range []letter{leaseOf(0xffffffff), leaseOf(0xffffffff, 3, 4), leaseOf(0xffffffff, 10, 0xfffffffe)} {
		a := age(t, granted)
		a.until(t, "P10: a lease without an end", api.Bound, 2000)
		wantSent(t, a.Boot, "P7: a nak", told(nak, theXid).frame())
		wantLook(t, a.Boot, "P7: a nak", api.Look{Now: 2000})
	}
	a := age(t, leaseOf(0xfffffffe, 10, 0xfffffffd))
	a.until(t, "P10: a lease that nearly has no end", api.Bound, 10)
	a.tick(t, "P10: a lease that nearly has no end", api.Renewing, aRenewal)
}

// A renewal, byte by byte, but for its sums.
func TestRenewalBytes(t *testing.T) {
	a := age(t, leaseOf(16))
	a.until(t, "P10: Bound", api.Bound, 8)
	a.Tick(theXid)
	s := allOut(a.Boot)[0]
	want := "\x02\x00\x00\x00\x00\x07\x02\x00\x00\x00\x00\x2a\x08\x00" +
		"\x45\x00\x01\x48\x00\x09\x40\x00\x40\x11" + s[24:26] + "\x0a\x00\x00\x37\x0a\x00\x00\x01" +
		"\x00\x44\x00\x43\x01\x34" + s[40:42] +
		"\x01\x01\x06\x00\x01\x02\x03\x07\x00\x00\x00\x00" +
		"\x0a\x00\x00\x37\x00\x00\x00\x00\x00\x00\x00\x00\x00\x00\x00\x00\x02\x00\x00\x00\x00\x2a"
	if s[:len(want)] != want || s[len(want)+202:len(want)+218] != "\x63\x82\x53\x63\x35\x01\x03\x37\x06\x01\x03\x33\x36\x3a\x3b\xff" || len(s) != 342 {
		t.Errorf("P10: a renewal is\n%x, want\n%x", s, want)
	}
}

// An ack grants the lease anew, from then on, whenever it comes.
func TestGrantedAnew(t *testing.T) {
	for late := range 8 {
		a := age(t, leaseOf(16))
		a.until(t, "P10: Bound", api.Bound, 8)
		lease := api.Renewing
		for k := range late + 1 {
			switch {
			case k == 0:
				a.tick(t, "P10: old", api.Renewing, aRenewal)
			case k == 6:
				lease = api.Rebinding
				a.tick(t, "P10: very old", api.Rebinding, aRebinding)
			default:
				a.tick(t, "P10: no ack as yet", lease)
			}
		}
		want := a.Look()
		want.Lease = api.Bound
		wantSent(t, a.Boot, "P10: an ack", leaseOf(16).frame())
		wantLook(t, a.Boot, "P10: an ack", want)
		now := 9 + late
		a.growOld(t, "P10: granted anew", ages{now + 8, now + 14, now + 16})
	}
}

// A server that answers: the lease has no end.
func TestGrantedOnAndOn(t *testing.T) {
	a := age(t, leaseOf(16))
	for now := 8; now < 2000; now += 8 {
		a.until(t, "P10: granted on and on", api.Bound, now)
		a.tick(t, "P10: granted on and on", api.Renewing, aRenewal)
		comes(t, a.Boot, leaseOf(16).frame(), leaseOf(16).frame())
	}
}

// Of an ack behind another all times are its own: longer, shorter, told or not.
func TestTimesOfALaterAck(t *testing.T) {
	for what, x := range map[string]struct {
		first, second letter
		want          ages // the second ack comes at tick 9
	}{
		"longer":                  {leaseOf(16), leaseOf(100), ages{59, 93, 109}},
		"shorter":                 {leaseOf(16), leaseOf(8), ages{13, 16, 17}},
		"much shorter":            {leaseOf(16), leaseOf(4), ages{0, 10, 13}},
		"of two ticks":            {leaseOf(16), leaseOf(2), ages{0, 10, 11}},
		"of one tick":             {leaseOf(16), leaseOf(1), ages{0, 0, 10}},
		"told behind such as not": {leaseOf(16), leaseOf(20, 3, 5), ages{12, 14, 29}},
		"not told behind such":    {leaseOf(100, 8, 90), leaseOf(16), ages{17, 23, 25}},
		"wrong behind right":      {leaseOf(100, 8, 90), leaseOf(16, 8, 90), ages{17, 23, 25}},
		"told both times":         {leaseOf(100, 8, 90), leaseOf(90, 7, 80), ages{16, 89, 99}},
	} {
		a := age(t, x.first)
		a.until(t, "P10: Bound", api.Bound, 8)
		a.tick(t, "P10: old", api.Renewing, aRenewal)
		wantSent(t, a.Boot, "P10: "+what, x.second.frame())
		a.growOld(t, "P10: "+what, x.want)
	}
	a := age(t, leaseOf(16))
	a.until(t, "P10: Bound", api.Bound, 8)
	a.tick(t, "P10: old", api.Renewing, aRenewal)
	wantSent(t, a.Boot, "P10: without an end", leaseOf(0xffffffff).frame())
	a.until(t, "P10: without an end", api.Bound, 200)
}

// Answers that are let be leave all times as they are.
func TestAnswersThatLeaveTheTimes(t *testing.T) {
	other := leaseOf(100).with(addressOption(54, otherIP))
	another := leaseOf(100)
	another.message.Yours = otherIP
	for what, x := range map[string]struct {
		l  letter
		at []int
	}{
		"an ack in Bound":                   {leaseOf(100), []int{4, 8}},
		"an ack of another server":          {other, []int{4, 9, 14}},
		"an ack with another address":       {another, []int{4, 9, 12, 15, 16}},
		"an ack without a time":             {leaseOf(100).without(51), []int{4, 9, 12, 15, 16}},
		"an ack for no time":                {leaseOf(0), []int{4, 9, 12, 15, 16}},
		"an ack of three bytes":             {leaseOf(0).with(option(51, "\x00\x00\x10")), []int{4, 9, 12, 15, 16}},
		"an ack of another Xid":             {told(ack, 7), []int{4, 9, 12, 15, 16}},
		"an offer":                          {told(offer, theXid), []int{4, 9, 12, 15, 16}},
		"a nak of another server":           {told(nak, theXid).with(addressOption(54, otherIP)), []int{4, 9, 14}},
		"a nak of another Xid":              {told(nak, 7), []int{4, 9, 12, 15, 16}},
		"a message that is not a reply":     {renewing(0), []int{4, 9, 12, 15, 16}},
		"an ack of a server of three bytes": {leaseOf(100).with(option(54, "\x0a\x00\x00")), []int{4, 9, 12, 15, 16}},
	} {
		a := age(t, leaseOf(16))
		for now := 4; now < 17; now++ {
			switch now {
			case 9:
				a.tick(t, "P10: "+what, api.Renewing, aRenewal)
			case 15:
				a.tick(t, "P10: "+what, api.Rebinding, aRebinding)
			default:
				a.tick(t, "P10: "+what, a.Look().Lease)
			}
			if slices.Contains(x.at, now) {
				kept := a.Look()
				wantSent(t, a.Boot, "P10: "+what, x.l.frame())
				wantLook(t, a.Boot, "P10: "+what, kept)
			}
		}
		a.Tick(theXid)
		wantLook(t, a.Boot, "P10: "+what+", over", api.Look{Now: 17})
	}
}

// An ack that is let be is no answer: eight ticks later it is asked for again.
func TestAskedForAgain(t *testing.T) {
	a := age(t, leaseOf(100, 8, 60))
	a.until(t, "P10: Bound", api.Bound, 8)
	for range 6 { // at 9, 17 and so on
		a.tick(t, "P10: asked for", api.Renewing, aRenewal)
		for range 7 {
			wantSent(t, a.Boot, "P10: for no time", leaseOf(0).frame())
			a.tick(t, "P10: less than eight ticks", api.Renewing)
		}
	}
	a.tick(t, "P10: asked for", api.Renewing, aRenewal) // at 57
	a.until(t, "P10: Renewing", api.Renewing, 60)
	for range 5 { // at 61, 69 and so on
		a.tick(t, "P10: very old", api.Rebinding, aRebinding)
		a.until(t, "P10: less than eight ticks", api.Rebinding, a.Look().Now+7)
	}
}

// When it is granted anew, the eight ticks begin anew with the next time that it is asked for.
func TestAskedForBehindAnAck(t *testing.T) {
	a := age(t, leaseOf(100, 8, 60))
	a.until(t, "P10: Bound", api.Bound, 8)
	a.tick(t, "P10: old", api.Renewing, aRenewal) // at 9
	wantSent(t, a.Boot, "P10: an ack", leaseOf(100, 5, 60).frame())
	a.until(t, "P10: Bound", api.Bound, 13)
	a.tick(t, "P10: old again", api.Renewing, aRenewal) // at 14
	a.until(t, "P10: Renewing", api.Renewing, 21)
	a.tick(t, "P10: eight ticks", api.Renewing, aRenewal)
	a.until(t, "P10: Renewing", api.Renewing, 29)
}

// In Rebinding another server may grant it: then that is the lease's.
func TestAnotherServer(t *testing.T) {
	first := leaseOf(16)
	first.message.Next = serverIP
	second := leaseOf(16).with(addressOption(54, otherIP))
	second.message.Next = serverIP
	a := age(t, first)
	a.until(t, "P10: Bound", api.Bound, 8)
	a.tick(t, "P10: old", api.Renewing, aRenewal)
	wantSent(t, a.Boot, "P10: another server in Renewing", second.frame())
	a.until(t, "P10: Renewing", api.Renewing, 14)
	a.tick(t, "P10: very old", api.Rebinding, aRebinding)
	wantSent(t, a.Boot, "P10: another server in Rebinding", second.frame())
	a.until(t, "P10: granted by another server", api.Bound, 22)

	a.Tick(theXid)
	wantOut(t, a.Boot, "P10: the other server is asked for", asksFor(otherIP))
	kept := api.Look{Now: 23, Lease: api.Renewing, Phase: api.Loading, Address: myIP, Cached: 2}
	wantLook(t, a.Boot, "P10: the other server is asked for", kept)
	l := renewing(a.id)
	l.ether.To, l.ip.To = thirdCard, otherIP
	wantSent(t, a.Boot, "P10: it is told", tells(thirdCard, otherIP), l.frame())
	wantSent(t, a.Boot, "P10: the first server's ack", first.frame())
	wantSent(t, a.Boot, "P10: the first server's nak", told(nak, theXid).frame())
	wantLook(t, a.Boot, "P10: the first server", kept)
	wantSent(t, a.Boot, "P10: the other server's ack", second.frame())
	kept.Lease = api.Bound
	wantLook(t, a.Boot, "P10: the other server's ack", kept)
	wantSent(t, a.Boot, "P10: the first server's nak", told(nak, theXid).frame())
	wantLook(t, a.Boot, "P10: the first server's nak", kept)
	wantSent(t, a.Boot, "P10: the other server's nak", told(nak, theXid).with(addressOption(54, otherIP)).frame())
	wantLook(t, a.Boot, "P10: the other server's nak", api.Look{Now: 23})
}

// Whose card a renewal goes to: by mask and router, and not by where images are.
func TestHopsOfRenewals(t *testing.T) {
	mask, router := option(1, "\xff\xff\xff\x00"), addressOption(3, routerIP)
	for _, x := range []struct {
		what    string
		next    api.IP
		options []api.Option
		image   api.IP // the neighbour that the read goes to
		renewal api.IP
	}{
		{"no mask, no router", 0, nil, serverIP, serverIP},
		{"in the net", 0, []api.Option{mask}, serverIP, serverIP},
		{"in the net, a router", 0, []api.Option{mask, router}, serverIP, serverIP},
		{"not in the net", 0, []api.Option{router}, routerIP, routerIP},
		{"images far away", farIP, []api.Option{mask, router}, routerIP, serverIP},
		{"images and the server far away", farIP, []api.Option{router}, routerIP, routerIP},
		{"images at another", otherIP, []api.Option{mask, router}, otherIP, serverIP},
		{"images at the machine's own address", myIP, []api.Option{router}, myIP, routerIP},
		{"images far away, no router", farIP, []api.Option{mask}, farIP, serverIP},
	} {
		granted := leaseOf(100, 10, 50)
		granted.message.Next = x.next
		granted.message.Options = append(granted.message.Options, x.options...)
		b := bind(t, config(), theXid, granted)
		comes(t, b, tells(thirdCard, x.image))
		ticks(b, 7, theXid)
		allOut(b)
		b.Tick(theXid) // 11
		if l := b.Look(); l.Lease != api.Renewing || l.Phase != api.Reading {
			t.Fatalf("P10: %s: Look() = %+v", x.what, l)
		}
		l := renewing(5) // reads at 3, 5 and 9
		l.ether.To = thirdCard
		if x.image == x.renewal {
			wantOut(t, b, "P10: "+x.what, l.frame())
			continue
		}
		if x.image == myIP { // which nobody tells, so that it is asked for all the time
			wantOut(t, b, "P10: "+x.what, asksFor(myIP), asksFor(x.renewal))
		} else {
			wantOut(t, b, "P10: "+x.what, asksFor(x.renewal))
		}
		wantCached(t, b, "P10: "+x.what, 2)
		wantSent(t, b, "P10: "+x.what, tells(thirdCard, x.renewal), l.frame())
	}
}

// By an ack of an old lease there are another mask, another router, another place of images.
func TestHopsBehindAnAck(t *testing.T) {
	a := age(t, leaseOf(100, 8, 60))
	a.until(t, "P10: Bound", api.Bound, 8)
	a.tick(t, "P10: old", api.Renewing, aRenewal)
	again := leaseOf(100, 8, 60).with(addressOption(3, routerIP))
	again.message.Next = serverIP
	comes(t, a.Boot, again.frame())
	comes(t, a.Boot, served(serverPort, data(0, "")))
	wantOut(t, a.Boot, "P10: by the router now", asksFor(routerIP))
	l := sending(a.id, serverPort, acks(0))
	l.ether.To = thirdCard
	wantSent(t, a.Boot, "P10: by the router now", tells(thirdCard, routerIP), l.datagramFrame())
	for a.Look().Now < 16 {
		a.id++
		a.Tick(theXid)
		comes(t, a.Boot, served(serverPort, data(0, "")))
		allOut(a.Boot)
	}
	a.Tick(theXid)
	r := renewing(a.id + 1)
	r.ether.To = thirdCard
	wantOut(t, a.Boot, "P10: by the router now", r.frame())
}

// Nobody is there: what waits for the server, and who is asked for it, at each tick. Reads are sent at 3, 5, 9 and 17; the cache comes ahead of the lease, and that ahead of the image.
func TestNobodyIsThere(t *testing.T) {
	b := bind(t, config(), theXid, leaseOf(20))
	says := map[int]string{
		3: asksFor(serverIP), 5: asksFor(serverIP), 7: asksFor(serverIP), // with reads 2 and 3
		9: asksFor(serverIP), 11: asksFor(serverIP), 13: asksFor(serverIP), // with read 4, then with renewal 5
		15: aRebinding(6),
		17: asksFor(serverIP), 19: asksFor(serverIP), 21: asksFor(serverIP), // with read 7; at 21 all is dropped behind it
		22: aDiscover(8, theXid),
	}
	for now := 3; now <= 22; now++ {
		if s, ok := says[now]; ok {
			wantOut(t, b, "P10: nobody is there", s)
		} else {
			wantOut(t, b, "P10: nobody is there")
		}
		want := api.Look{Now: now, Lease: api.Bound, Phase: api.Reading, Address: myIP, Cached: 1}
		switch {
		case now == 22:
			want = api.Look{Now: 22, Lease: api.Selecting}
		case now == 21:
			want = api.Look{Now: 21}
		case now >= 15:
			want.Lease = api.Rebinding
		case now >= 11:
			want.Lease = api.Renewing
		}
		if now == 15 || now == 16 {
			want.Cached = 0
		}
		wantLook(t, b, "P10: nobody is there", want)
		b.Tick(theXid)
	}
}

// What waits for the server is the last packet, whether it is a read or a renewal.
func TestRenewalWaits(t *testing.T) {
	for told, want := range map[int]string{
		8:  sent(3, 69, readOf(config())),
		9:  sent(4, 69, readOf(config())),
		10: sent(4, 69, readOf(config())),
		11: aRenewal(5),
		14: aRenewal(5),
		15: "",
		16: "",
		17: sent(7, 69, readOf(config())),
		20: sent(7, 69, readOf(config())),
		21: "",
	} {
		b := bind(t, config(), theXid, leaseOf(20))
		ticks(b, told-3, theXid)
		allOut(b)
		if want == "" {
			wantSent(t, b, "P10: nothing waits", tells(otherCard, serverIP))
			continue
		}
		wantSent(t, b, "P10: what waits", tells(otherCard, serverIP), want)
		wantSent(t, b, "P10: it waits no more", tells(otherCard, serverIP))
	}
}

// A renewal that waits is let go when an ack is quicker, if something else waits then; if not, it is sent all the same.
func TestRenewalWaitsBehindAnAck(t *testing.T) {
	b := bind(t, config(), theXid, leaseOf(20))
	ticks(b, 8, theXid)
	allOut(b)
	wantSent(t, b, "P10: an ack", leaseOf(20).frame())
	wantLook(t, b, "P10: an ack", looks(11, api.Reading, 0))
	wantSent(t, b, "P10: the renewal waits", tells(otherCard, serverIP), aRenewal(5))
}

// A renewal and a read at one tick: the renewal comes first, so that the read is what waits.
func TestLeaseIsAheadOfTheImage(t *testing.T) {
	b := bind(t, config(), theXid, leaseOf(16))
	ticks(b, 5, theXid)
	allOut(b)
	b.Tick(theXid)
	wantOut(t, b, "P10: a new entry", asksFor(serverIP))
	wantSent(t, b, "P10: the read waits", tells(otherCard, serverIP), sent(5, 69, readOf(config())))

	b = bind(t, config(), theXid, leaseOf(16))
	comes(t, b, tells(otherCard, serverIP))
	ticks(b, 5, theXid)
	allOut(b)
	b.Tick(theXid)
	wantOut(t, b, "P10: the server is known", aRenewal(4), sent(5, 69, readOf(config())))
	ticks(b, 6, theXid)
	wantOut(t, b, "P10: very old", aRebinding(6))
	b.Tick(theXid)
	wantOut(t, b, "P10: one tick ahead")
	b.Tick(theXid) // 17: the read would be sent again
	wantOut(t, b, "P10: over")
	wantLook(t, b, "P10: over", api.Look{Now: 17})
	b.Tick(theXid)
	wantOut(t, b, "P10: behind it", aDiscover(7, theXid))
}

// At 33 the attempt would fail; but all is dropped, if the lease is over then.
func TestOverWhenTheAttemptFails(t *testing.T) {
	for _, x := range []struct {
		time uint32
		want api.Look
	}{{31, api.Look{Now: 33, Lease: api.Selecting}}, {32, api.Look{Now: 33}}, {33, api.Look{Now: 33, Boots: 1}}} {
		b := bind(t, config(), theXid, leaseOf(x.time))
		for range 30 {
			b.Tick(theXid)
			allOut(b)
		}
		wantLook(t, b, "P10: over, or failed", x.want)
	}
}

// A draw of 2: reads are sent at 3, 6 and 11. At 9 the server was asked for three times, so that its entry goes; then the lease makes a new one.
func TestCacheIsAheadOfTheLease(t *testing.T) {
	ack := leaseOf(16)
	ack.message.Xid = 2
	b := bind(t, config(), 2, ack)
	ticks(b, 5, 2)
	wantOut(t, b, "P10: ahead of it", asksFor(serverIP), asksFor(serverIP), asksFor(serverIP))
	wantLook(t, b, "P10: ahead of it", looks(8, api.Reading, 0))
	b.Tick(2)
	wantOut(t, b, "P10: a new entry", asksFor(serverIP))
	want := looks(9, api.Reading, 0)
	want.Lease = api.Renewing
	wantLook(t, b, "P10: a new entry", want)
	l := renewing(4)
	l.message.Xid = 2
	wantSent(t, b, "P10: the renewal waits there", tells(otherCard, serverIP), l.frame())
}

// The server is known up to tick 62.
func TestRenewalToOneThatIsKnownNoMore(t *testing.T) {
	for _, old := range []uint32{60, 61, 62, 63} {
		a := age(t, leaseOf(100, old, 90))
		for range old - 3 {
			stay(t, a.Boot, 1)
			a.id++
		}
		a.Tick(theXid) // the one behind tick old
		if old < 62 {
			wantOut(t, a.Boot, "P10: a known card", aRenewal(a.id))
			continue
		}
		if old == 63 { // at 63 the ack that was answered has asked for it already
			wantOut(t, a.Boot, "P10: it is asked for already")
		} else {
			wantOut(t, a.Boot, "P10: known no more", asksFor(serverIP))
		}
		wantCached(t, a.Boot, "P10: known no more", 1)
		if old == 63 {
			wantSent(t, a.Boot, "P10: the renewal waits", tells(thirdCard, serverIP), atCard(thirdCard, renewing(a.id)))
			continue
		}
		wantSent(t, a.Boot, "P10: an ack waits instead", served(serverPort, data(0, "")))
		wantSent(t, a.Boot, "P10: an ack waits instead", tells(thirdCard, serverIP), toCard(thirdCard, a.id+1, serverPort, acks(0)))
	}
}

func atCard(card api.MAC, l letter) string {
	l.ether.To = card
	return l.frame()
}

// Where there is no room in the cache, the server that is asked for stands instead of another.
func TestRenewalWithoutRoom(t *testing.T) {
	granted := leaseOf(100, 10, 50)
	granted.message.Next = otherIP
	b := bind(t, config(), theXid, granted)
	comes(t, b, tells(thirdCard, otherIP))
	allOut(b)
	b.Tick(theXid)
	askMany(t, b, otherIP+1, otherIP+2, otherIP+3)
	ticks(b, 6, theXid)
	allOut(b)
	wantCached(t, b, "P10: no room", 4)
	b.Tick(theXid)
	wantOut(t, b, "P10: no room", asksFor(serverIP))
	wantCached(t, b, "P10: no room", 4)
	ticks(b, 1, theXid)
	wantOut(t, b, "P10: no room")
	wantSent(t, b, "P10: no room", tells(otherCard, serverIP), aRenewal(5))
	ticks(b, 5, theXid) // 17: a read, to one that has gone, instead of the one whose time is up first
	wantOut(t, b, "P10: the other one has gone", asksFor(otherIP))
	wantCached(t, b, "P10: the other one has gone", 4)
	ticks(b, 1, theXid)
	wantOut(t, b, "P10: a wait")
	ticks(b, 1, theXid) // 19: eight ticks
	wantOut(t, b, "P10: the server is still known", asksFor(otherIP), aRenewal(7))
}

// A renewal that has no room on the card is lost; it was asked for all the same.
func TestRenewalIsLost(t *testing.T) {
	c := config()
	c.Tx = 1
	b := bind(t, c, theXid, leaseOf(100, 8, 50))
	allOut(b)
	comes(t, b, tells(otherCard, serverIP))
	ticks(b, 5, theXid)
	allOut(b)
	comes(t, b, asksMe(thirdCard, otherIP))
	lost := b.Look().Lost
	b.Tick(theXid)
	want := api.Look{Now: 9, Lease: api.Renewing, Phase: api.Reading, Address: myIP, Cached: 2, Lost: lost + 2}
	wantLook(t, b, "P10: a lost renewal", want)
	wantOut(t, b, "P10: a lost renewal", isTold(thirdCard, otherIP))
	ticks(b, 7, theXid)
	wantOut(t, b, "P10: a lost renewal")
	b.Tick(theXid)
	want.Now, want.Lost = 17, lost+3
	wantLook(t, b, "P10: eight ticks", want)
	wantOut(t, b, "P10: eight ticks", aRenewal(6))
}

// The image is asked for and comes while the lease grows old.
func TestLoadWhileTheLeaseGrowsOld(t *testing.T) {
	b := bind(t, of("0123456789"), theXid, leaseOf(24, 3, 9))
	comes(t, b, tells(otherCard, serverIP))
	allOut(b)
	want := looks(4, api.Reading, 0)
	want.Lease = api.Renewing
	b.Tick(theXid)
	wantOut(t, b, "P10: Reading", aRenewal(3))
	wantLook(t, b, "P10: Reading", want)
	wantSent(t, b, "P10: Reading", served(serverPort, options(field("blksize", "8"))), sent(4, serverPort, acks(0)))
	ticks(b, 1, theXid)
	wantSent(t, b, "P10: Loading", served(serverPort, data(1, "01234567")), sent(5, serverPort, acks(1)))
	ticks(b, 4, theXid) // 9
	want.Now, want.Phase, want.Bytes = 9, api.Loading, 8
	wantOut(t, b, "P10: Loading", sent(6, serverPort, acks(1)))
	wantLook(t, b, "P10: Loading", want)
	b.Tick(theXid)
	want.Now, want.Lease = 10, api.Rebinding
	wantOut(t, b, "P10: Loading", aRebinding(7))
	wantLook(t, b, "P10: Loading", want)
	wantSent(t, b, "P10: Loading", leaseOf(100).frame())
	want.Lease = api.Bound
	wantLook(t, b, "P10: Loading", want)
	wantSent(t, b, "P10: Loading", served(otherPort, data(2, "89")), sent(8, otherPort, failure(5, "port")))
	wantSent(t, b, "P10: Loading", served(serverPort, data(2, "89")), sent(9, serverPort, acks(2)))
	wantImage(t, b, "P10: Loading", "0123456789")
}

// All is dropped, with what has come of the image; the next lease has times of its own.
func TestOverWhileLoading(t *testing.T) {
	b := bind(t, of("0123456789"), theXid, leaseOf(8))
	comes(t, b, tells(otherCard, serverIP), served(serverPort, options(field("blksize", "8"))), served(serverPort, data(1, "01234567")))
	ticks(b, 5, theXid)
	want := looks(8, api.Loading, 8)
	want.Lease = api.Rebinding
	wantLook(t, b, "P10: one tick ahead", want)
	allOut(b)
	b.Tick(theXid)
	wantLook(t, b, "P10: over", api.Look{Now: 9})
	wantSent(t, b, "P10: over", served(serverPort, data(2, "89")))
	wantSent(t, b, "P10: over", leaseOf(100).frame())
	wantSent(t, b, "P10: over", tells(otherCard, serverIP))
	wantSent(t, b, "P10: over", asksMe(otherCard, serverIP))
	wantLook(t, b, "P10: over", api.Look{Now: 9})
	b.Tick(theXid)
	if out := allOut(b); len(out) != 1 {
		t.Fatalf("P10: all begins again: %x", out)
	}
	comes(t, b, told(offer, theXid).frame(), leaseOf(20).frame())
	ticks(b, 2, theXid)
	comes(t, b, tells(otherCard, serverIP))
	allOut(b)
	for now := 13; now <= 19; now++ {
		b.Tick(theXid)
		wantLook(t, b, "P10: the next lease", looks(now, api.Reading, 0))
	}
	b.Tick(theXid)
	if l := b.Look(); l.Lease != api.Renewing {
		t.Errorf("P10: the next lease: Look() = %+v", l)
	}
}

// All is dropped while a packet waits: it is never sent.
func TestOverWhileSomethingWaits(t *testing.T) {
	for _, time := range []uint32{1, 2, 4, 7, 8, 16, 20} {
		b := bind(t, config(), theXid, leaseOf(time))
		over := max(int(time)+1, 4)
		ticks(b, over-3, theXid)
		wantLook(t, b, "P10: over", api.Look{Now: over, Lost: b.Look().Lost})
		allOut(b)
		for range 3 {
			wantSent(t, b, "P10: over", tells(otherCard, serverIP))
			wantSent(t, b, "P10: over", tells(otherCard, myIP))
			wantSent(t, b, "P10: over", asksMe(otherCard, serverIP))
		}
		wantCached(t, b, "P10: over", 0)
		b.Tick(theXid)
		if out := allOut(b); len(out) != 1 || b.Look().Lease != api.Selecting {
			t.Errorf("P10: behind a lease of %d: %x, %+v", time, out, b.Look())
		}
	}
}

// A lease that is over is no failure: any number of them may be.
func TestLeasesThatAreOverAreNoFailures(t *testing.T) {
	b := begin(t, config())
	for k := range 20 {
		b.Tick(theXid)
		comes(t, b, told(offer, theXid).frame(), leaseOf(5).frame())
		ticks(b, 5, theXid)
		wantLook(t, b, "P10: over", api.Look{Now: 6*k + 6, Lost: b.Look().Lost})
		allOut(b)
	}
}

// In Done the lease is as it was, for ever.
func TestDoneWhileTheLeaseGrowsOld(t *testing.T) {
	for now, lease := range map[int]api.Lease{3: api.Bound, 8: api.Bound, 9: api.Renewing, 14: api.Renewing, 15: api.Rebinding, 16: api.Rebinding} {
		b := bind(t, config(), theXid, leaseOf(16))
		comes(t, b, tells(otherCard, serverIP))
		ticks(b, now-3, theXid)
		comes(t, b, served(serverPort, data(1, "image")))
		lost := b.Look().Lost
		allOut(b)
		for range 100 {
			wantImage(t, b, "P10: Done", "image")
			want := api.Look{Now: now, Lease: lease, Phase: api.Done, Address: myIP, Bytes: 5, Cached: 1, Lost: lost}
			if l := b.Look(); l != want {
				t.Fatalf("P10: Done: Look() = %+v, want %+v", l, want)
			}
			for _, kind := range []byte{offer, ack, nak} {
				wantSent(t, b, "P10: Done", told(kind, theXid).frame())
			}
			b.Tick(theXid)
			wantOut(t, b, "P10: Done")
			now++
		}
	}
}

// Three attempts that fail in leases of any age; then nothing is done any more.
func TestFailedWhileTheLeaseGrowsOld(t *testing.T) {
	b := begin(t, config())
	for attempt, wait := range []int{2, 8, 14} { // Bound, Renewing, Rebinding
		b.Tick(theXid)
		comes(t, b, told(offer, theXid).frame(), leaseOf(16).frame())
		ticks(b, wait, theXid)
		if l := b.Look(); l.Lease != api.Bound+api.Lease(attempt) {
			t.Fatalf("P10: Look() = %+v", l)
		}
		comes(t, b, served(serverPort, failure(1, "no")))
	}
	allOut(b)
	want := api.Look{Now: 27, Boots: 3, Phase: api.Failed, Lost: b.Look().Lost}
	for range 100 {
		wantLook(t, b, "P10: Failed", want)
		wantSent(t, b, "P10: Failed", leaseOf(16).frame())
		b.Tick(theXid)
		wantOut(t, b, "P10: Failed")
		want.Now++
	}
}

// An attempt that fails while the lease is old leaves nothing of its age to the next one.
func TestAgeOfTheNextAttempt(t *testing.T) {
	b := bind(t, config(), theXid, leaseOf(16))
	comes(t, b, tells(otherCard, serverIP))
	ticks(b, 12, theXid) // 15
	comes(t, b, served(serverPort, failure(1, "no")))
	wantLook(t, b, "P10: an attempt fails", api.Look{Now: 15, Boots: 1, Lost: b.Look().Lost})
	b.Tick(theXid)
	comes(t, b, told(offer, theXid).frame(), leaseOf(16).frame()) // at 16
	ticks(b, 2, theXid)
	comes(t, b, tells(otherCard, serverIP))
	for now := 18; now < 24; now++ {
		if l := b.Look(); l.Lease != api.Bound || l.Now != now {
			t.Fatalf("P10: the next attempt: Look() = %+v", l)
		}
		b.Tick(theXid)
	}
	if l := b.Look(); l.Lease != api.Renewing || l.Boots != 1 {
		t.Errorf("P10: the next attempt: Look() = %+v", l)
	}
}

// An ack is kept as it came, whatever becomes of the memory in which it was handed in.
func TestRenewalKeepsNoMemory(t *testing.T) {
	a := age(t, leaseOf(16))
	a.until(t, "P10: Bound", api.Bound, 8)
	a.tick(t, "P10: old", api.Renewing, aRenewal)
	bytes := []byte(leaseOf(20, 3, 5).frame())
	a.Put(unsafe.String(&bytes[0], len(bytes)))
	clear(bytes)
	a.Poll(1)
	a.growOld(t, "P10: granted anew", ages{12, 14, 29})
}

// Two machines side by side: each has times of its own.
func TestAgesSideBySide(t *testing.T) {
	one, two := age(t, leaseOf(16)), age(t, leaseOf(100, 8, 13))
	for now := 4; now <= 8; now++ {
		one.tick(t, "P10: one", api.Bound)
		two.tick(t, "P10: two", api.Bound)
	}
	one.tick(t, "P10: one", api.Renewing, aRenewal)
	two.tick(t, "P10: two", api.Renewing, aRenewal)
	wantSent(t, one.Boot, "P10: one", leaseOf(16).frame())
	two.until(t, "P10: two", api.Renewing, 13)
	two.tick(t, "P10: two", api.Rebinding, aRebinding)
	one.until(t, "P10: one", api.Bound, 16)
	one.tick(t, "P10: one", api.Renewing, aRenewal)
	wantSent(t, two.Boot, "P10: two", leaseOf(8).frame()) // at 14
	two.growOld(t, "P10: two", ages{18, 21, 22})
	one.until(t, "P10: one", api.Renewing, 22)
	one.tick(t, "P10: one", api.Rebinding, aRebinding)
}
