package boot_test

import (
	"strings"
	"testing"

	"netboot/api"
	"netboot/boot"
)

// sendsAt: the ticks up to the last one at which the machine sends something, and nothing but one frame at each.
func sendsAt(t *testing.T, b *boot.Boot, last int, draw func(now int) uint32) []int {
	t.Helper()
	var at []int
	for b.Look().Now < last {
		b.Tick(draw(b.Look().Now + 1))
		switch n := len(allOut(b)); n {
		case 0:
		case 1:
			at = append(at, b.Look().Now)
		default:
			t.Fatalf("P7: %d frames at one tick", n)
		}
	}
	return at
}

func wantTicks(t *testing.T, what string, got, want []int) {
	t.Helper()
	same := len(got) == len(want)
	for i := range got {
		same = same && got[i] == want[i]
	}
	if !same {
		t.Errorf("%s: at ticks %v, want %v", what, got, want)
	}
}

func always(draw uint32) func(int) uint32 { return func(int) uint32 { return draw } }

// Example 6, and the other draws.
func TestWaitsAtEachDraw(t *testing.T) {
	rest := [][]int{
		{1, 2, 5, 12, 28, 29, 32, 39, 55, 56, 59, 66},
		{1, 3, 7, 15, 32, 34, 38, 46, 63, 65, 69, 77},
		{1, 4, 9, 18, 36, 39, 44, 53, 71, 74, 79, 88},
	}
	fails := [][]int{{27, 54, 81}, {31, 62, 93}, {35, 70, 105}}
	for _, draw := range []uint32{0, 1, 2, 3, 4, 5, 300, 0x80000000, 0xfffffffd, 0xfffffffe, 0xffffffff} {
		b := begin(t, config())
		wantTicks(t, "P7: discovers", sendsAt(t, b, 200, always(draw)), rest[draw%3])
		b = begin(t, config())
		for k, at := range fails[draw%3] {
			ticks(b, at-1-b.Look().Now, draw)
			wantLook(t, b, "P7: ahead of a failure", api.Look{Now: at - 1, Lease: api.Selecting, Boots: k, Lost: b.Look().Lost})
			b.Tick(draw)
			want := api.Look{Now: at, Boots: k + 1, Lost: b.Look().Lost}
			if k == 2 {
				want.Phase = api.Failed
			}
			wantLook(t, b, "P7: a failure", want)
		}
	}
}

// The draw that counts is the last one when something is sent, not one of the wait.
func TestWaitHangsOnTheDrawOfItsSending(t *testing.T) {
	drawn := func(at ...int) func(int) uint32 {
		return func(now int) uint32 {
			for _, n := range at {
				if n == now {
					return 2
				}
			}
			return 0
		}
	}
	for _, x := range []struct {
		two  []int // the ticks at which the draw is 2; at all others it is 0
		want []int
	}{
		{[]int{1}, []int{1, 4, 7, 14, 30}},
		{[]int{2}, []int{1, 2, 7, 14, 30}},
		{[]int{5}, []int{1, 2, 5, 14, 30}},
		{[]int{12}, []int{1, 2, 5, 12, 30}},
		{[]int{3, 4, 6, 7, 8, 9, 10, 11, 13, 26}, []int{1, 2, 5, 12, 28}},
		{[]int{1, 4}, []int{1, 4, 9, 16, 32}},
	} {
		b := begin(t, config())
		wantTicks(t, "P6: waits", sendsAt(t, b, x.want[4], drawn(x.two...)), x.want)
	}
}

// A request has waits of its own, that begin when it is sent; then the last draw is that of the tick ahead of it.
func TestWaitsOfARequest(t *testing.T) {
	for draw, want := range [][]int{{7, 10, 17, 33}, {8, 12, 20, 37}, {9, 14, 23, 41}} {
		b := begin(t, config())
		ticks(b, 5, 1)
		b.Tick(uint32(draw))
		allOut(b)
		comes(t, b, told(offer, 1).frame())
		wantOut(t, b, "P7: a request", aRequest(2, 1))
		at := sendsAt(t, b, want[3]-1, always(uint32(draw)))
		wantLook(t, b, "P7: nobody answers a request", api.Look{Now: want[3] - 1, Boots: 1})
		at = append(at, sendsAt(t, b, want[3], always(uint32(draw)))...)
		wantTicks(t, "P7: requests", at, want)
	}
}

// What is sent again is the same, whatever was drawn since; the next attempt has its own Xid.
func TestTheSameIsSentAgain(t *testing.T) {
	b := begin(t, config())
	for now := 1; now <= 31; now++ {
		b.Tick(uint32(300*now + 1))
		switch now {
		case 1, 3, 7, 15:
			wantOut(t, b, "P7: a discover", aDiscover(map[int]uint16{1: 0, 3: 1, 7: 2, 15: 3}[now], 301))
		default:
			wantOut(t, b, "P7: a wait")
		}
	}
	b.Tick(7)
	wantOut(t, b, "P7: the next attempt", aDiscover(4, 7))
	comes(t, b, told(offer, 7).frame())
	wantOut(t, b, "P7: a request", aRequest(5, 7))
	ticks(b, 2, 70)
	wantOut(t, b, "P7: a request again", aRequest(6, 7))
	ticks(b, 4, 700)
	wantOut(t, b, "P7: a request again", aRequest(7, 7))
	ticks(b, 8, 7000)
	wantOut(t, b, "P7: a request again", aRequest(8, 7))
	ticks(b, 15, 70000)
	wantLook(t, b, "P7: the last wait", api.Look{Now: 61, Lease: api.Requesting, Boots: 1})
	b.Tick(1)
	wantLook(t, b, "P7: the second attempt fails", api.Look{Now: 62, Boots: 2})
	b.Tick(1)
	wantOut(t, b, "P7: the last attempt", aDiscover(9, 1))
	comes(t, b, told(offer, 1).frame(), told(ack, 1).frame())
	wantOut(t, b, "P7: the last attempt", aRequest(10, 1), whoHas())
	comes(t, b, arpFrame(myCard, otherCard, api.ARP{Op: 2, FromMAC: otherCard, FromIP: myIP}))
	wantLook(t, b, "P7: the last attempt fails", api.Look{Now: 63, Boots: 3, Phase: api.Failed})
	wantOut(t, b, "P7: the last attempt fails", aDecline(11, 1))
}

// A discover, byte by byte.
func TestDiscoverBytes(t *testing.T) {
	b := begin(t, config())
	b.Tick(0xa1b2c3d4)
	head := "\xff\xff\xff\xff\xff\xff\x02\x00\x00\x00\x00\x2a\x08\x00" +
		"\x45\x00\x01\x48\x00\x00\x40\x00\x40\x11\x39\xa6\x00\x00\x00\x00\xff\xff\xff\xff" +
		"\x00\x44\x00\x43\x01\x34\xa5\xc1" +
		"\x01\x01\x06\x00\xa1\xb2\xc3\xd4\x00\x00\x80\x00"
	options := "\x63\x82\x53\x63\x35\x01\x01\x37\x06\x01\x03\x33\x36\x3a\x3b\xff"
	want := head + strings.Repeat("\x00", 16) + "\x02\x00\x00\x00\x00\x2a" + strings.Repeat("\x00", 10+64+128) + options
	want += strings.Repeat("\x00", 14+20+8+300-len(want))
	wantOut(t, b, "P7: a discover", want)
}

// In Failed nothing is done any more: time goes on, frames are taken off.
func TestFailed(t *testing.T) {
	b := reachFailed(t)
	want := api.Look{Now: 93, Boots: 3, Phase: api.Failed}
	wantLook(t, b, "P6: all attempts have failed", want)
	for k := range 200 {
		b.Tick(uint32(k))
		want.Now++
		comes(t, b, told(offer, uint32(k)).frame(), told(ack, 0).frame(), told(nak, theXid).frame(), "")
		comes(t, b, arpFrame(allCards, otherCard, api.ARP{Op: 1, FromMAC: otherCard, FromIP: myIP, ToIP: myIP}))
		wantLook(t, b, "P6: behind all attempts", want)
		wantOut(t, b, "P6: behind all attempts")
	}
	for k := range 9 {
		if b.Put("") != (k < 8) {
			t.Errorf("P6: behind all attempts the card has other room")
		}
	}
	if n := b.Poll(5) + b.Poll(5); n != 8 {
		t.Errorf("P6: behind all attempts Poll takes off %d frames, not 8", n)
	}
}

// What waited when the last attempt failed is still sent.
func TestTakeBehindFailed(t *testing.T) {
	b := begin(t, config())
	ticks(b, 1000, 1)
	wantLook(t, b, "P6: behind all attempts", api.Look{Now: 1000, Boots: 3, Phase: api.Failed, Lost: 4})
	want := []string{}
	for id := range uint16(8) {
		want = append(want, aDiscover(id, 1))
	}
	wantOut(t, b, "P6: behind all attempts", want...)
}
