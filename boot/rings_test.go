package boot_test

import (
	"math"
	"testing"
	"unsafe"

	"netboot/api"
	"netboot/boot"
)

func TestPutAtEachRing(t *testing.T) {
	for room := 1; room <= api.MaxRing; room++ {
		c := config()
		c.Rx = room
		b := begin(t, c)
		for round := range 3 {
			for k := range room + 2 {
				if ok := b.Put("frame"); ok != (k < room) {
					t.Fatalf("P6: room for %d: Put %d of round %d: %v", room, k, round, ok)
				}
			}
			if n := b.Poll(1); n != 1 || !b.Put("") || b.Put("") {
				t.Fatalf("P6: room for %d: Poll(1) = %d, or other room than for one behind it", room, n)
			}
			if n := b.Poll(room + 1); n != room {
				t.Fatalf("P6: room for %d: Poll of more = %d", room, n)
			}
		}
	}
}

func TestPollNumbers(t *testing.T) {
	for _, x := range []struct{ wait, n, want int }{
		{0, 0, 0}, {0, 1, 0}, {0, -1, 0}, {0, math.MaxInt, 0}, {3, 0, 0}, {3, -1, 0}, {3, math.MinInt, 0},
		{3, 1, 1}, {3, 2, 2}, {3, 3, 3}, {3, 4, 3}, {3, math.MaxInt, 3}, {8, 8, 8}, {8, 7, 7},
	} {
		b := begin(t, config())
		for range x.wait {
			b.Put("")
		}
		if n := b.Poll(x.n); n != x.want {
			t.Errorf("P6: %d wait: Poll(%d) = %d, want %d", x.wait, x.n, n, x.want)
		}
		if n := b.Poll(100); n != x.wait-x.want {
			t.Errorf("P6: %d wait: Poll behind Poll(%d) = %d", x.wait, x.n, n)
		}
	}
}

// Frames are looked at when they are polled, not when they come, in the order in which they came.
func TestPollLooksInOrder(t *testing.T) {
	b := reach(t, api.Selecting)
	conflict := arpFrame(allCards, otherCard, api.ARP{Op: 2, FromMAC: otherCard, FromIP: myIP})
	for _, f := range []string{told(offer, theXid).frame(), told(ack, theXid).frame(), conflict, told(offer, theXid).frame()} {
		b.Put(f)
	}
	b.Poll(0)
	wantLook(t, b, "P6: none was looked at", api.Look{Now: 1, Lease: api.Selecting})
	b.Poll(1)
	wantLook(t, b, "P6: the offer was", api.Look{Now: 1, Lease: api.Requesting})
	b.Poll(1)
	wantLook(t, b, "P6: the ack was", api.Look{Now: 1, Lease: api.Probing})
	if n := b.Poll(5); n != 2 {
		t.Errorf("P6: Poll(5) = %d, want 2", n)
	}
	wantLook(t, b, "P6: all were", api.Look{Now: 1, Boots: 1})
	wantOut(t, b, "P6: all were", aRequest(1, theXid), whoHas(), aDecline(2, theXid))

	b = reach(t, api.Selecting)
	b.Put(told(ack, theXid).frame())
	b.Put(told(offer, theXid).frame())
	b.Poll(2)
	wantLook(t, b, "P6: the ack came too early", api.Look{Now: 1, Lease: api.Requesting})
}

// Of frames that had no room nothing is seen.
func TestPutWithoutRoom(t *testing.T) {
	c := config()
	c.Rx = 1
	b := begin(t, c)
	b.Tick(theXid)
	b.Put("")
	if b.Put(told(offer, theXid).frame()) || b.Poll(9) != 1 || b.Poll(9) != 0 {
		t.Errorf("P6: a frame without room comes")
	}
	wantLook(t, b, "P6: a frame without room", api.Look{Now: 1, Lease: api.Selecting})
}

// A frame waits as it came, whatever becomes of the memory in which it was handed in.
func TestPutKeepsNoMemory(t *testing.T) {
	b := reach(t, api.Selecting)
	bytes := []byte(told(offer, theXid).frame())
	b.Put(unsafe.String(&bytes[0], len(bytes)))
	clear(bytes)
	b.Poll(1)
	wantLook(t, b, "P1: the memory of a frame", api.Look{Now: 1, Lease: api.Requesting})
}

func TestTakeAtEachRing(t *testing.T) {
	for room := 1; room <= api.MaxRing; room++ {
		c := config()
		c.Tx = room
		b := begin(t, c)
		made := sendMany(b, 20)
		if l := b.Look(); l.Lost != 20-room {
			t.Errorf("P6: room for %d: of 20 frames %d are lost", room, l.Lost)
		}
		for k := range room {
			if s, ok := b.Take(); s != made[k] || !ok {
				t.Fatalf("P6: room for %d: frame %d: %x, %v, want %x", room, k, s, ok, made[k])
			}
		}
		for range 2 {
			if s, ok := b.Take(); s != "" || ok {
				t.Fatalf("P6: Take() of nothing = %x, %v", s, ok)
			}
		}
	}
}

// sendMany: the machine sends n frames, an even number, that nobody takes; which they would be.
func sendMany(b *boot.Boot, n int) []string {
	var made []string
	for id := uint16(0); len(made) < n; id += 2 {
		xid := uint32(id) + 5
		b.Tick(xid)
		b.Put(told(offer, xid).frame())
		b.Put(told(nak, xid).frame())
		b.Poll(2)
		made = append(made, aDiscover(id, xid), aRequest(id+1, xid))
	}
	return made
}

// What is lost is lost, and the packets behind it are counted as if it were not.
func TestLost(t *testing.T) {
	c := config()
	c.Tx = 1
	b := begin(t, c)
	b.Tick(1)
	comes(t, b, told(offer, 1).frame())
	wantLook(t, b, "P6: a lost request", api.Look{Now: 1, Lease: api.Requesting, Lost: 1})
	wantOut(t, b, "P6: a lost request", aDiscover(0, 1))
	ticks(b, 2, 1)
	wantOut(t, b, "P6: behind a lost request", aRequest(2, 1))
	ticks(b, 4, 1)
	comes(t, b, told(ack, 1).frame())
	wantLook(t, b, "P6: a lost ARP", api.Look{Now: 7, Lease: api.Probing, Lost: 2})
	wantOut(t, b, "P6: a lost ARP", aRequest(3, 1))
	comes(t, b, arpFrame(allCards, otherCard, api.ARP{Op: 1, FromMAC: otherCard, FromIP: myIP, ToIP: myIP}))
	wantLook(t, b, "P6: a decline", api.Look{Now: 7, Boots: 1, Lost: 2})
	b.Tick(2)
	wantLook(t, b, "P6: a lost discover", api.Look{Now: 8, Lease: api.Selecting, Boots: 1, Lost: 3})
	wantOut(t, b, "P6: a lost discover", aDecline(4, 1))
	ticks(b, 3, 2)
	wantOut(t, b, "P6: behind a lost discover", aDiscover(6, 2))
}

// The wait behind a lost frame is the same: the machine does not know of it.
func TestLostIsSent(t *testing.T) {
	c := config()
	c.Tx = 1
	b := begin(t, c)
	ticks(b, 31, 1)
	wantLook(t, b, "P6: three discovers are lost", api.Look{Now: 31, Boots: 1, Lost: 3})
	wantOut(t, b, "P6: three discovers are lost", aDiscover(0, 1))
}

func TestIDsGoRound(t *testing.T) {
	b := begin(t, config())
	id := uint16(0)
	next := func(kind string) {
		t.Helper()
		s, ok := b.Take()
		if got := uint16(s[18])<<8 | uint16(s[19]); !ok || got != id {
			t.Fatalf("P6: the ID of %s is %d, want %d", kind, got, id)
		}
		id++
	}
	xid := uint32(9)
	anOffer, aNak := told(offer, xid).frame(), told(nak, xid).frame()
	for range 1<<15 + 2 {
		b.Tick(xid)
		next("a discover")
		comes(t, b, anOffer)
		next("a request")
		comes(t, b, aNak)
	}
	b.Tick(xid)
	wantOut(t, b, "P6: IDs go round", aDiscover(4, xid))
}
