package boot_test

import (
	"strings"
	"testing"

	"netboot/api"
	"netboot/boot"
)

// of: a configuration for an image.
func of(image string) api.Config {
	c := config()
	c.Digest = boot.Hash(image)
	return c
}

// Example 8.
func TestLoad(t *testing.T) {
	b := eights(t, of("0123456789abcdefghijk"), 2)
	wantSent(t, b, "P9: block 1", served(serverPort, data(1, "01234567")))
	wantLook(t, b, "P9: block 1", looks(3, api.Loading, 8))
	wantSent(t, b, "P9: block 2", served(serverPort, data(2, "89abcdef")), sent(4, serverPort, acks(2)))
	wantLook(t, b, "P9: block 2", looks(3, api.Loading, 16))
	wantSent(t, b, "P9: block 3", served(serverPort, data(3, "ghijk")), sent(5, serverPort, acks(3)))
	wantImage(t, b, "P9: the image", "0123456789abcdefghijk")
	if l := b.Look(); l != looks(3, api.Done, 21) {
		t.Errorf("P9: the image: Look() = %+v", l)
	}
}

// Example 9, and the like: blocks that come twice, too early, too late.
func TestOtherBlocks(t *testing.T) {
	b := eights(t, of("0123456789abcdefghijk"), 2)
	comes(t, b, served(serverPort, data(1, "01234567")), served(serverPort, data(2, "89abcdef")))
	wantOut(t, b, "P9: a window", sent(4, serverPort, acks(2)))
	id := uint16(5)
	for _, n := range []uint16{2, 1, 0, 4, 5, 0xffff, 2, 3 << 8, 0x8003} {
		for _, s := range []string{"ghijk", "", "01234567"} {
			wantSent(t, b, "P9: another block", served(serverPort, data(n, s)), sent(id, serverPort, acks(2)))
			id++
		}
		wantSent(t, b, "P9: more bytes than a block", served(serverPort, data(n, "012345678")))
	}
	wantLook(t, b, "P9: other blocks", looks(3, api.Loading, 16))
	wantSent(t, b, "P9: block 3", served(serverPort, data(3, "ghijk")), sent(id, serverPort, acks(3)))
	wantImage(t, b, "P9: the image", "0123456789abcdefghijk")
}

func TestBlocksInReading(t *testing.T) {
	b := reading(t, of("image"))
	for _, n := range []uint16{0, 2, 3, 1 << 8, 0xffff} {
		wantSent(t, b, "P9: another block in Reading", served(otherPort, data(n, "image")))
		wantSent(t, b, "P9: an ack in Reading", served(otherPort, acks(n)))
	}
	wantSent(t, b, "P9: a read in Reading", served(otherPort, readOf(config())))
	wantLook(t, b, "P9: Reading", looks(3, api.Reading, 0))
	wantSent(t, b, "P9: block 1", served(serverPort, data(1, "image")), sent(3, serverPort, acks(1)))
	wantImage(t, b, "P9: block 1", "image")
}

// Without options a block is 512 bytes, a window one block, whatever was asked for.
func TestLoadWithoutOptions(t *testing.T) {
	c := config()
	c.Cap, c.Window = 600000, 8
	whole := strings.Repeat("k", 512)
	c.Digest = boot.Hash(whole + whole + whole[:511])
	b := reading(t, c)
	wantSent(t, b, "P9: block 1", served(serverPort, data(1, whole)), sent(3, serverPort, acks(1)))
	wantLook(t, b, "P9: block 1", looks(3, api.Loading, 512))
	wantSent(t, b, "P9: more bytes", served(serverPort, data(2, whole+"k")))
	wantSent(t, b, "P9: options in Loading", served(serverPort, options(field("blksize", "8"))))
	wantSent(t, b, "P9: wrong options in Loading", served(serverPort, options(field("blksize", "7"))))
	wantSent(t, b, "P9: another port", served(otherPort, data(2, whole)), sent(4, otherPort, failure(5, "port")))
	wantSent(t, b, "P9: block 2", served(serverPort, data(2, whole)), sent(5, serverPort, acks(2)))
	wantSent(t, b, "P9: block 3", served(serverPort, data(3, whole[:511])), sent(6, serverPort, acks(3)))
	wantImage(t, b, "P9: the image", whole+whole+whole[:511])
}

// Block 1 with more bytes than a block: the image comes from its port, but nothing was answered: the read is still what is sent.
func TestTooManyBytesInReading(t *testing.T) {
	b := reading(t, of("image"))
	wantSent(t, b, "P9: more bytes than a block", served(serverPort, data(1, strings.Repeat("k", 513))))
	wantLook(t, b, "P9: more bytes than a block", looks(3, api.Loading, 0))
	wantSent(t, b, "P9: options", served(serverPort, options()))
	wantSent(t, b, "P9: another port", served(otherPort, options()), sent(3, otherPort, failure(5, "port")))
	ticks(b, 2, theXid)
	wantOut(t, b, "P9: the read again", sent(4, 69, readOf(config())))
	wantSent(t, b, "P9: another block", served(serverPort, data(2, "")), sent(5, serverPort, acks(0)))
	ticks(b, 2, theXid)
	wantOut(t, b, "P9: the ack again", sent(6, serverPort, acks(0)))
	wantSent(t, b, "P9: block 1", served(serverPort, data(1, "image")), sent(7, serverPort, acks(1)))
	wantImage(t, b, "P9: block 1", "image")
}

func TestOptionsInLoading(t *testing.T) {
	b := eights(t, config(), 2)
	for _, m := range []api.TFTP{options(), options(field("blksize", "8"), field("windowsize", "1")), options(field("tsize", "101")), options(field("other", "1"))} {
		wantSent(t, b, "P9: options in Loading", served(serverPort, m))
	}
	wantLook(t, b, "P9: options in Loading", looks(3, api.Loading, 0))
	wantSent(t, b, "P9: the window stays", served(serverPort, data(1, "01234567")))
	wantSent(t, b, "P9: the window stays", served(serverPort, data(2, "01234567")), sent(4, serverPort, acks(2)))
}

// A window counts the blocks since something was answered; what is sent because a wait is over is not counted.
func TestWindows(t *testing.T) {
	c := wide()
	b := loading(t, c, field("blksize", "8"), field("windowsize", "3"))
	block := func(n uint16) string { return served(serverPort, data(n, "01234567")) }
	wantSent(t, b, "P9: one of three", block(1))
	b.Tick(theXid)
	wantSent(t, b, "P9: two of three", block(2))
	b.Tick(theXid)
	wantOut(t, b, "P9: the wait is behind the last block")
	b.Tick(theXid)
	wantOut(t, b, "P9: the wait is over", sent(4, serverPort, acks(2)))
	wantSent(t, b, "P9: three of three", block(3), sent(5, serverPort, acks(3)))
	wantSent(t, b, "P9: one of three", block(4))
	wantSent(t, b, "P9: another block begins a window", block(4), sent(6, serverPort, acks(4)))
	wantSent(t, b, "P9: one of three", block(5))
	wantSent(t, b, "P9: two of three", block(6))
	wantSent(t, b, "P9: another port does not", served(otherPort, data(7, "")), sent(7, otherPort, failure(5, "port")))
	wantSent(t, b, "P9: three of three", block(7), sent(8, serverPort, acks(7)))
	wantSent(t, b, "P9: another block begins a window", block(9), sent(9, serverPort, acks(7)))
	wantSent(t, b, "P9: one of three", block(8))
	wantSent(t, b, "P9: two of three", block(9))
	wantSent(t, b, "P9: three of three", block(10), sent(10, serverPort, acks(10)))
	wantLook(t, b, "P9: windows", looks(6, api.Loading, 80))
}

// The last block is answered wherever in a window it stands, an empty one, too.
func TestLastBlocks(t *testing.T) {
	for whole := range 10 {
		for _, last := range []string{"", "x", "0123456"} {
			image := strings.Repeat("01234567", whole) + last
			b := eights(t, of(image), 2)
			id := uint16(4)
			for n := 1; n <= whole; n++ {
				comes(t, b, served(serverPort, data(uint16(n), "01234567")))
				if n%2 == 0 {
					wantOut(t, b, "P9: a window", sent(id, serverPort, acks(uint16(n))))
					id++
				}
			}
			wantSent(t, b, "P9: the last block", served(serverPort, data(uint16(whole+1), last)), sent(id, serverPort, acks(uint16(whole+1))))
			wantImage(t, b, "P9: the last block", image)
		}
	}
}

// Cap bytes may come, and no byte more.
func TestCap(t *testing.T) {
	for most := 1; most <= 40; most++ {
		for _, window := range []int{1, 2} {
			c := of(strings.Repeat("k", most))
			c.Cap = most
			for size := most; size <= most+1; size++ {
				b := eights(t, c, window)
				left := strings.Repeat("k", size)
				n := uint16(1)
				for ; len(left) >= 8 && (int(n)*8 <= most); n++ {
					comes(t, b, served(serverPort, data(n, left[:8])))
					left = left[8:]
				}
				id := uint16(4 + len(allOut(b)))
				left = left[:min(8, len(left))]
				if size == most {
					wantSent(t, b, "P9: Cap bytes", served(serverPort, data(n, left)), sent(id, serverPort, acks(n)))
					wantImage(t, b, "P9: Cap bytes", strings.Repeat("k", most))
					continue
				}
				wantSent(t, b, "P9: one byte more", served(serverPort, data(n, left)), sent(id, serverPort, failure(3, "size")))
				wantLook(t, b, "P9: one byte more", api.Look{Now: 3, Boots: 1})
			}
		}
	}
}

// What is let be, or of another block, does not exceed Cap.
func TestCapOfOtherBlocks(t *testing.T) {
	c := of("0123456789")
	c.Cap = 10
	b := eights(t, c, 1)
	wantSent(t, b, "P9: block 1", served(serverPort, data(1, "01234567")), sent(4, serverPort, acks(1)))
	wantSent(t, b, "P9: another block", served(serverPort, data(3, "89abcdef")), sent(5, serverPort, acks(1)))
	wantSent(t, b, "P9: more bytes than a block", served(serverPort, data(2, "89abcdefg")))
	wantSent(t, b, "P9: block 2", served(serverPort, data(2, "89")), sent(6, serverPort, acks(2)))
	wantImage(t, b, "P9: the image", "0123456789")
}

// Cap is exceeded by the first block, in Reading.
func TestCapInReading(t *testing.T) {
	c := of("")
	c.Cap = 10
	b := reading(t, c)
	wantSent(t, b, "P9: Cap in Reading", served(otherPort, data(1, "0123456789a")), sent(3, otherPort, failure(3, "size")))
	wantLook(t, b, "P9: Cap in Reading", api.Look{Now: 3, Boots: 1})
}

// A tsize is no promise: more and fewer bytes may come.
func TestSizeThatIsNotKept(t *testing.T) {
	for _, image := range []string{"", "0123", "0123456"} {
		b := loading(t, of(image), field("tsize", "4"))
		wantSent(t, b, "P9: another size", served(serverPort, data(1, image)), sent(4, serverPort, acks(1)))
		wantImage(t, b, "P9: another size", image)
	}
}

// The greatest image in the least blocks: the numbers of blocks go round.
func TestBlocksGoRound(t *testing.T) {
	image := noise(5, api.MaxCap)
	c := of(image)
	c.Cap, c.Window = api.MaxCap, 8
	for _, window := range []int{1, 8} {
		b := eights(t, c, window)
		id := uint16(4)
		for n := 1; n <= len(image)/8; n++ {
			if n == 1<<16 {
				wantSent(t, b, "P9: another block", served(serverPort, data(1, "01234567")), sent(id, serverPort, acks(0xffff)))
				id++
			}
			comes(t, b, served(serverPort, data(uint16(n), image[n*8-8:n*8])))
			if s, ok := b.Take(); ok {
				if want := sent(id, serverPort, acks(uint16(n))); s != want {
					t.Fatalf("P9: block %d: %x, want %x", n, s, want)
				}
				id++
			}
		}
		if l := b.Look(); l != looks(3, api.Loading, api.MaxCap) {
			t.Fatalf("P9: all bytes: Look() = %+v", l)
		}
		if window == 1 && id != uint16(75005&0xffff) {
			t.Errorf("P9: the next ID is %d", id)
		}
		wantSent(t, b, "P9: the last block", served(serverPort, data(uint16(75001&0xffff), "")), sent(id, serverPort, acks(uint16(75001&0xffff))))
		wantImage(t, b, "P9: the greatest image", image)
	}
}

func TestWrongDigests(t *testing.T) {
	for _, image := range []string{"", "imag", "image ", "Image", "imagd"} {
		b := reading(t, of("image"))
		wantSent(t, b, "P9: a wrong digest", served(serverPort, data(1, image)), sent(3, serverPort, acks(1)))
		wantLook(t, b, "P9: a wrong digest", api.Look{Now: 3, Boots: 1})
		b.Tick(theXid)
		comes(t, b, told(offer, theXid).frame(), told(ack, theXid).frame())
		ticks(b, 2, theXid)
		comes(t, b, tells(otherCard, serverIP), served(serverPort, data(1, "image")))
		wantImage(t, b, "P9: the next attempt", "image")
	}
	c := config()
	c.Digest = boot.Hash("image")[:31] + "\x00"
	b := reading(t, c)
	comes(t, b, served(serverPort, data(1, "image")))
	wantLook(t, b, "P9: a digest of another last byte", api.Look{Now: 3, Boots: 1})
}

// In Done nothing is done any more: frames are taken off, time goes on.
func TestDoneAndBehind(t *testing.T) {
	b := eights(t, of("0123"), 2)
	wantSent(t, b, "P9: the image", served(serverPort, data(1, "0123")), sent(4, serverPort, acks(1)))
	for k := range 200 {
		wantSent(t, b, "P6: Done", served(serverPort, data(1, "0123")))
		wantSent(t, b, "P6: Done", served(serverPort, data(2, "0123")))
		wantSent(t, b, "P6: Done", served(otherPort, data(2, "0123")))
		wantSent(t, b, "P6: Done", served(serverPort, failure(0, "")))
		wantSent(t, b, "P6: Done", served(serverPort, options()))
		wantSent(t, b, "P6: Done", told(nak, theXid).frame())
		wantSent(t, b, "P6: Done", tells(thirdCard, serverIP))
		wantImage(t, b, "P6: Done", "0123")
		b.Tick(uint32(k))
		wantOut(t, b, "P6: Done")
		if l := b.Look(); l != looks(4+k, api.Done, 4) {
			t.Fatalf("P6: Done: Look() = %+v", l)
		}
	}
	for k := range 9 {
		if b.Put(served(serverPort, data(1, "0123"))) != (k < 8) {
			t.Errorf("P6: in Done the card has other room")
		}
	}
	if n := b.Poll(5) + b.Poll(5); n != 8 {
		t.Errorf("P6: in Done Poll takes off %d frames, not 8", n)
	}
}

// What waited when the image was there is still sent.
func TestTakeBehindDone(t *testing.T) {
	b := reading(t, of("0123"))
	comes(t, b, served(serverPort, options()), served(serverPort, data(1, "0123")))
	ticks(b, 10, 1)
	wantOut(t, b, "P6: behind Done", sent(3, serverPort, acks(0)), sent(4, serverPort, acks(1)))
}

// All is dropped while an image comes: no bytes of it are left, and nothing is waited for.
func TestDroppedWhileLoading(t *testing.T) {
	b := eights(t, of("0123456789"), 2)
	wantSent(t, b, "P9: block 1", served(serverPort, data(1, "01234567")))
	wantSent(t, b, "P9: a nak", told(nak, theXid).frame())
	wantLook(t, b, "P9: all is dropped", api.Look{Now: 3})
	wantSent(t, b, "P9: all is dropped", served(serverPort, data(2, "89")))
	wantLook(t, b, "P9: all is dropped", api.Look{Now: 3})
	b.Tick(theXid)
	wantOut(t, b, "P9: all begins again", aDiscover(4, theXid))
	b.Tick(theXid)
	wantOut(t, b, "P9: nothing is waited for")
	comes(t, b, told(offer, theXid).frame(), told(ack, theXid).frame())
	ticks(b, 2, theXid)
	comes(t, b, tells(otherCard, serverIP))
	wantOut(t, b, "P9: all begins again", aRequest(5, theXid), whoHas(), asksFor(serverIP), sent(6, 69, readOf(config())))
	wantSent(t, b, "P9: what was agreed to is dropped", served(otherPort, data(1, "0123456789")), sent(7, otherPort, acks(1)))
	wantImage(t, b, "P9: all begins again", "0123456789")
}

// Ahead of Reading, a message of TFTP is nothing.
func TestLettersAheadOfReading(t *testing.T) {
	for lease := api.Off; lease <= api.Probing; lease++ {
		b := reach(t, lease)
		kept := b.Look()
		for _, m := range []api.TFTP{options(), data(1, "image"), failure(1, "no"), acks(0)} {
			for _, to := range []uint16{0, 69, 1024, myPort} {
				for _, ip := range []api.IP{0, myIP, toAllIP} {
					l := serving(serverPort, m)
					l.udp.To, l.ip.To = to, ip
					comes(t, b, l.datagramFrame())
					l.ip.From = 0
					comes(t, b, l.datagramFrame())
				}
			}
		}
		wantLook(t, b, "P9: ahead of Reading", kept)
		wantOut(t, b, "P9: ahead of Reading")
	}
}

// Images are at Next, if that is told; then not at the server.
func TestImagesAtNext(t *testing.T) {
	granted := told(ack, theXid)
	granted.message.Next = otherIP
	b := bind(t, config(), theXid, granted)
	wantOut(t, b, "P9: images at Next", asksFor(otherIP))
	wantSent(t, b, "P9: images at Next", tells(otherCard, serverIP))
	read := sending(2, 69, readOf(config()))
	read.ip.To = otherIP
	wantSent(t, b, "P9: images at Next", tells(otherCard, otherIP), read.datagramFrame())
	wantSent(t, b, "P9: from the server", served(serverPort, data(1, "image")))
	l := serving(serverPort, data(1, "image"))
	l.ip.From = otherIP
	answer := sending(3, serverPort, acks(1))
	answer.ip.To = otherIP
	wantSent(t, b, "P9: from Next", l.datagramFrame(), answer.datagramFrame())
	wantImage(t, b, "P9: from Next", "image")
}

// An error that has to wait for a neighbour goes with it when the attempt fails.
func TestErrorToOneThatIsNotKnown(t *testing.T) {
	b := bound(t, config())
	allOut(b)
	wantSent(t, b, "P9: an error that waits", served(serverPort, options(field("other", "1"))))
	wantLook(t, b, "P9: an error that waits", api.Look{Now: 3, Boots: 1})
	wantSent(t, b, "P9: it has gone", tells(otherCard, serverIP))
	b.Tick(theXid)
	wantOut(t, b, "P9: it had an ID", aDiscover(4, theXid))
}

// Messages of TFTP of any bytes.
func TestLettersOfAnyBytes(t *testing.T) {
	for _, b := range []*boot.Boot{reading(t, wide()), loading(t, wide(), field("blksize", "8"))} {
		for k, s := range odd() {
			if len(s) > 1400 {
				continue
			}
			for _, port := range []uint16{serverPort, otherPort} {
				l := serving(port, api.TFTP{})
				l.udp.Load = s
				comes(t, b, l.datagramFrame())
			}
			b.Tick(uint32(k))
			allOut(b)
			if l := b.Look(); l.Bytes > 100000 || l.Cached > 4 || l.Boots > 3 {
				t.Fatalf("P1: Look() = %+v", l)
			}
		}
	}
}
