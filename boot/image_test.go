package boot_test

import (
	"strconv"
	"strings"
	"testing"
	"unsafe"

	"netboot/api"
	"netboot/boot"
)

func TestPortsByDraws(t *testing.T) {
	for _, x := range []struct {
		draw uint32
		port uint16
	}{
		{0, 1024}, {1, 1025}, {59999, 61023}, {60000, 1024}, {60001, 1025}, {119999, 61023}, {120000, 1024},
		{64512, 5536}, {65536, 6560}, {0x7fffffff, 1024 + 0x7fffffff%60000}, {0xfffffffe, 48318}, {0xffffffff, 48319},
	} {
		b := bind(t, config(), x.draw, told(ack, x.draw))
		allOut(b)
		read := sending(2, 69, readOf(config()))
		read.udp.From = x.port
		wantSent(t, b, "P9: a port by a draw", tells(otherCard, serverIP), read.datagramFrame())
		l := serving(serverPort, options())
		l.udp.To = x.port
		answer := sending(3, serverPort, acks(0))
		answer.udp.From = x.port
		wantSent(t, b, "P9: a port by a draw", l.datagramFrame(), answer.datagramFrame())
	}
}

// The draw that counts is the last one when the image is asked for, not one ahead of it or behind it.
func TestPortOfTheLastDraw(t *testing.T) {
	b := begin(t, config())
	b.Tick(theXid)
	comes(t, b, told(offer, theXid).frame(), told(ack, theXid).frame())
	b.Tick(50)
	b.Tick(100)
	b.Tick(10)
	allOut(b)
	read := sending(2, 69, readOf(config()))
	read.udp.From = 1124
	wantSent(t, b, "P9: the last draw", tells(otherCard, serverIP), read.datagramFrame())
	b.Tick(20)
	read.ip.ID = 3
	wantOut(t, b, "P9: the same port again", read.datagramFrame())
}

func TestReadsByConfigurations(t *testing.T) {
	for _, x := range []struct {
		name          string
		block, window int
	}{{"k", 8, 1}, {"kernel", 512, 4}, {strings.Repeat("~", 20), 1024, 8}, {"!/", 1000, 2}, {"Kernel.IMG", 99, 3}} {
		c := config()
		c.Name, c.Block, c.Window = x.name, x.block, x.window
		b := reading(t, c)
		wantLook(t, b, "P9: a read", looks(3, api.Reading, 0))
	}
}

// A read, byte by byte.
func TestReadBytes(t *testing.T) {
	b := bind(t, config(), 1, told(ack, 1))
	allOut(b)
	want := "\x02\x00\x00\x00\x00\x07\x02\x00\x00\x00\x00\x2a\x08\x00" +
		"\x45\x00\x00\x4a\x00\x02\x40\x00\x40\x11\x26\x6a\x0a\x00\x00\x37\x0a\x00\x00\x01" +
		"\x04\x01\x00\x45\x00\x36\xc6\x65" +
		"\x00\x01kernel\x00octet\x00blksize\x008\x00windowsize\x002\x00tsize\x000\x00"
	wantSent(t, b, "P9: a read", tells(otherCard, serverIP), want)
}

// New keeps no memory of what it is handed.
func TestNewKeepsNoMemory(t *testing.T) {
	c := config()
	name, sum := []byte(c.Name), []byte(c.Digest)
	c.Name, c.Digest = unsafe.String(&name[0], len(name)), unsafe.String(&sum[0], len(sum))
	b := begin(t, c)
	clear(name)
	clear(sum)
	b.Tick(theXid)
	comes(t, b, told(offer, theXid).frame(), told(ack, theXid).frame())
	ticks(b, 2, theXid)
	allOut(b)
	wantSent(t, b, "P1: the memory of a name", tells(otherCard, serverIP), sent(2, 69, readOf(config())))
	comes(t, b, served(serverPort, data(1, "image")))
	wantImage(t, b, "P1: the memory of a digest", "image")
}

// Data are kept as they came, and frames are only read.
func TestDataKeepNoMemory(t *testing.T) {
	b := reading(t, config())
	bytes := []byte(served(serverPort, data(1, "image")))
	kept := string(bytes)
	b.Put(unsafe.String(&bytes[0], len(bytes)))
	b.Poll(1)
	if string(bytes) != kept {
		t.Errorf("P1: a frame is changed")
	}
	clear(bytes)
	wantImage(t, b, "P1: the memory of data", "image")
}

// sentAt: the ticks of the waits behind something that is sent at a tick; the last of them is the one at which the attempt fails.
func sentAt(now int, draw uint32) []int {
	var at []int
	for k := range 4 {
		now += 2<<k + int(draw%3) - 1
		at = append(at, now)
	}
	return at
}

// wantAgain: a frame is sent again at the ends of the waits, and nothing else; then the attempt fails.
func wantAgain(t *testing.T, b *boot.Boot, what string, draw uint32, frame func(k int) string) {
	t.Helper()
	at := sentAt(b.Look().Now, draw)
	kept := b.Look()
	for k, end := range at {
		for b.Look().Now < end-1 {
			b.Tick(draw)
			wantOut(t, b, what+": a wait")
		}
		kept.Now = end - 1
		wantLook(t, b, what+": a wait", kept)
		b.Tick(draw)
		if k < 3 {
			wantOut(t, b, what+": again", frame(k))
		}
	}
	wantOut(t, b, what+": it fails")
	wantLook(t, b, what+": it fails", api.Look{Now: at[3], Boots: 1})
}

func TestReadIsSentAgain(t *testing.T) {
	for _, draw := range []uint32{0, 1, 2, 3, 4, 5, 0xffffffff} {
		b := bind(t, config(), draw, told(ack, draw))
		comes(t, b, tells(otherCard, serverIP))
		wantOut(t, b, "P9: a read", asksFor(serverIP), ofDraw(draw, 2, 69, readOf(config())))
		wantAgain(t, b, "P9: a read", draw, func(k int) string { return ofDraw(draw, uint16(3+k), 69, readOf(config())) })
		b.Tick(draw)
		wantOut(t, b, "P9: all begins again", aDiscover(6, draw))
	}
}

func TestAckIsSentAgain(t *testing.T) {
	for draw := range uint32(3) {
		b := loading(t, config())
		b.Tick(draw)
		wantSent(t, b, "P9: an ack", served(serverPort, data(0, "")), sent(4, serverPort, acks(0)))
		wantAgain(t, b, "P9: an ack", draw, func(k int) string { return sent(uint16(5+k), serverPort, acks(0)) })
	}
	b := loading(t, config())
	wantAgain(t, b, "P9: an ack of options", theXid, func(k int) string { return sent(uint16(4+k), serverPort, acks(0)) })
	b = reading(t, config())
	wantSent(t, b, "P9: an ack", served(serverPort, data(1, strings.Repeat("k", 100))), sent(3, serverPort, acks(1)))
	if _, ok := b.Image(); ok {
		t.Errorf("P9: an image of another digest")
	}
}

// An ack that was withheld counts as sent once: it is sent three times.
func TestWithheldAckIsSentAgain(t *testing.T) {
	for draw := range uint32(3) {
		b := eights(t, config(), 2)
		b.Tick(draw)
		wantSent(t, b, "P9: half a window", served(serverPort, data(1, "01234567")))
		wantLook(t, b, "P9: half a window", looks(4, api.Loading, 8))
		wantAgain(t, b, "P9: half a window", draw, func(k int) string { return sent(uint16(4+k), serverPort, acks(1)) })
	}
}

// What is answered begins the waits anew, at any time ahead of the failure; what is let be does not.
func TestAnswersBeginTheWaitsAnew(t *testing.T) {
	again := func(first uint16, block uint16) func(k int) string {
		return func(k int) string { return sent(first+uint16(k), serverPort, acks(block)) }
	}
	for now := 3; now < 33; now++ {
		b := eights(t, config(), 1)
		ticks(b, now-3, theXid)
		id := uint16(4 + len(allOut(b)))
		wantSent(t, b, "P9: another block", served(serverPort, data(7, "")), sent(id, serverPort, acks(0)))
		wantAgain(t, b, "P9: another block", theXid, again(id+1, 0))

		b = eights(t, config(), 1)
		ticks(b, now-3, theXid)
		allOut(b)
		wantSent(t, b, "P9: the next block", served(serverPort, data(1, "01234567")), sent(id, serverPort, acks(1)))
		wantAgain(t, b, "P9: the next block", theXid, again(id+1, 1))

		b = eights(t, config(), 2)
		ticks(b, now-3, theXid)
		allOut(b)
		wantSent(t, b, "P9: half a window", served(serverPort, data(1, "01234567")))
		wantAgain(t, b, "P9: half a window", theXid, again(id, 1))

		b = reading(t, config())
		ticks(b, now-3, theXid)
		id = uint16(3 + len(allOut(b)))
		wantSent(t, b, "P9: options", served(serverPort, options()), sent(id, serverPort, acks(0)))
		wantAgain(t, b, "P9: options", theXid, again(id+1, 0))
	}
}

// What is let be, and what is refused, leaves the waits as they are.
func TestLetBeLeavesTheWaits(t *testing.T) {
	b := eights(t, config(), 1)
	for _, m := range []api.TFTP{options(), acks(0), readOf(config()), data(1, "012345678")} {
		wantSent(t, b, "P9: let be", served(serverPort, m))
	}
	b.Tick(theXid)
	wantSent(t, b, "P9: let be", served(serverPort, options()))
	wantSent(t, b, "P9: refused", served(otherPort, data(1, "")), sent(4, otherPort, failure(5, "port")))
	b.Tick(theXid)
	wantOut(t, b, "P9: the wait is over", sent(5, serverPort, acks(0)))
}

// changes: letters that are no longer for the machine, from where images are, or to be read.
func changes() map[string]func(l *letter) {
	return map[string]func(l *letter){
		"a frame to another card":     func(l *letter) { l.ether.To = otherCard },
		"a frame of another type":     func(l *letter) { l.ether.Type = 0x86dd },
		"a frame of ARP":              func(l *letter) { l.ether.Type = 0x0806 },
		"a packet of another Proto":   func(l *letter) { l.ip.Proto = 6 },
		"from another address":        func(l *letter) { l.ip.From = otherIP },
		"from address 0":              func(l *letter) { l.ip.From = 0 },
		"from the machine's address":  func(l *letter) { l.ip.From = myIP },
		"to another address":          func(l *letter) { l.ip.To = otherIP },
		"to everybody":                func(l *letter) { l.ip.To = toAllIP },
		"to address 0":                func(l *letter) { l.ip.To = 0 },
		"to the port above":           func(l *letter) { l.udp.To++ },
		"to the port below":           func(l *letter) { l.udp.To-- },
		"to port 69":                  func(l *letter) { l.udp.To = 69 },
		"to port 68":                  func(l *letter) { l.udp.To = 68 },
		"to port 0":                   func(l *letter) { l.udp.To = 0 },
		"of no bytes":                 func(l *letter) { l.udp.Load = "" },
		"of one byte":                 func(l *letter) { l.udp.Load = "\x00" },
		"of a cut off head":           func(l *letter) { l.udp.Load = "\x00\x03\x00" },
		"of another op":               func(l *letter) { l.udp.Load = "\x00\x07\x00\x01" },
		"a write":                     func(l *letter) { l.udp.Load = "\x00\x02k\x00octet\x00" },
		"an error without an end":     func(l *letter) { l.udp.Load = "\x00\x05\x00\x01no" },
		"options without an end":      func(l *letter) { l.udp.Load = "\x00\x06blksize\x008" },
		"options that come twice":     func(l *letter) { l.udp.Load = "\x00\x06blksize\x008\x00blksize\x008\x00" },
		"an ack with bytes behind it": func(l *letter) { l.udp.Load = "\x00\x04\x00\x01\x00" },
		"data above all blocks":       func(l *letter) { l.udp.Load = "\x00\x03\x00\x01" + strings.Repeat("k", 1025) },
	}
}

func TestLettersThatAreLetBe(t *testing.T) {
	for what, change := range changes() {
		for _, m := range []api.TFTP{options(), data(1, "01234567"), data(1, "image"), failure(1, "no")} {
			for _, from := range []uint16{serverPort, otherPort} {
				l := serving(from, m)
				change(&l)
				b := reading(t, config())
				wantSent(t, b, "P9: Reading: "+what, l.datagramFrame())
				wantLook(t, b, "P9: Reading: "+what, looks(3, api.Reading, 0))
				wantSent(t, b, "P9: Reading: behind it", served(serverPort, options()), sent(3, serverPort, acks(0)))
				wantSent(t, b, "P9: Loading: "+what, l.datagramFrame())
				wantLook(t, b, "P9: Loading: "+what, looks(3, api.Loading, 0))
				wantSent(t, b, "P9: Loading: behind it", served(serverPort, data(1, "image")), sent(4, serverPort, acks(1)))
				wantImage(t, b, "P9: behind it", "image")
			}
		}
	}
}

// Sums that are wrong, and frames that are cut off.
func TestLettersThatCannotBeRead(t *testing.T) {
	right := served(serverPort, data(1, strings.Repeat("k", 40)))
	for n := range len(right) {
		b := loading(t, config())
		wantSent(t, b, "P9: a frame that is cut off", right[:n])
		if n >= 14 {
			turned := []byte(right)
			turned[n] ^= 0x11
			wantSent(t, b, "P9: a frame with a turned bit", string(turned))
		}
		wantLook(t, b, "P9: a frame that can't be read", looks(3, api.Loading, 0))
	}
}

// Whatever is not asked for may be as it likes.
func TestLettersThatAreLookedAt(t *testing.T) {
	for what, change := range map[string]func(l *letter){
		"to all cards":            func(l *letter) { l.ether.To = allCards },
		"from another card":       func(l *letter) { l.ether.From = thirdCard },
		"from the machine's card": func(l *letter) { l.ether.From = myCard },
		"a TTL of 1":              func(l *letter) { l.ip.TTL = 1 },
		"another ID":              func(l *letter) { l.ip.ID = 0 },
	} {
		b := reading(t, config())
		for k, m := range []api.TFTP{options(), data(1, "image")} {
			l := serving(serverPort, m)
			change(&l)
			wantSent(t, b, "P9: "+what, l.datagramFrame(), sent(uint16(3+k), serverPort, acks(uint16(k))))
		}
		wantImage(t, b, "P9: "+what, "image")
	}
}

// The port that the image comes from is any, and it is the first.
func TestPortsOfTheServer(t *testing.T) {
	for _, port := range []uint16{0, 1, 67, 68, 69, 1024, myPort, 0xffff} {
		b := reading(t, config())
		wantSent(t, b, "P9: a port of the server", served(port, options()), sent(3, port, acks(0)))
		wantSent(t, b, "P9: another port", served(port+1, data(1, "image")), sent(4, port+1, failure(5, "port")))
		wantSent(t, b, "P9: a port of the server", served(port, data(1, "image")), sent(5, port, acks(1)))
		wantImage(t, b, "P9: a port of the server", "image")
	}
}

// Example 9: in Loading another port is told so, unless it tells an error.
func TestOtherPorts(t *testing.T) {
	b := eights(t, config(), 2)
	wantSent(t, b, "P9: half a window", served(serverPort, data(1, "01234567")))
	id := uint16(4)
	for _, port := range []uint16{otherPort, 69, 0, serverPort - 1, 0xffff, myPort} {
		for _, m := range []api.TFTP{data(2, "89abcdef"), data(2, ""), data(1, "01234567"), data(2, strings.Repeat("k", 1024)),
			acks(0), options(), options(field("blksize", "9")), readOf(config()), {Op: 1, Text: "k"}} {
			wantSent(t, b, "P9: another port", served(port, m), sent(id, port, failure(5, "port")))
			id++
		}
		for _, m := range []api.TFTP{failure(0, ""), failure(5, "port"), failure(0xffff, "no")} {
			wantSent(t, b, "P9: an error of another port", served(port, m))
		}
	}
	wantLook(t, b, "P9: other ports", looks(3, api.Loading, 8))
	wantSent(t, b, "P9: the first port", served(serverPort, data(2, "89abcdef")), sent(id, serverPort, acks(2)))
}

func TestErrorsOfTheServer(t *testing.T) {
	for _, m := range []api.TFTP{failure(0, ""), failure(1, "no such file"), failure(5, "port"), failure(8, "option"), failure(0xffff, "\xff")} {
		for _, port := range []uint16{serverPort, otherPort, 69} {
			b := reading(t, config())
			wantSent(t, b, "P9: an error in Reading", served(port, m))
			wantLook(t, b, "P9: an error in Reading", api.Look{Now: 3, Boots: 1})
			b.Tick(5)
			wantOut(t, b, "P9: behind an error", aDiscover(3, 5))
		}
		b := eights(t, config(), 1)
		wantSent(t, b, "P9: data", served(serverPort, data(1, "01234567")), sent(4, serverPort, acks(1)))
		wantSent(t, b, "P9: an error in Loading", served(serverPort, m))
		wantLook(t, b, "P9: an error in Loading", api.Look{Now: 3, Boots: 1})
		wantSent(t, b, "P9: data behind an error", served(serverPort, data(2, "")))
	}
}

// Errors fail attempts, up to the last.
func TestErrorsUpToFailed(t *testing.T) {
	b := begin(t, config())
	for k := 1; k <= 3; k++ {
		b.Tick(theXid)
		comes(t, b, told(offer, theXid).frame(), told(ack, theXid).frame())
		ticks(b, 2, theXid)
		comes(t, b, tells(otherCard, serverIP), served(serverPort, failure(1, "no")))
		want := api.Look{Now: 3 * k, Boots: k}
		if k == 3 {
			want.Phase = api.Failed
		}
		wantLook(t, b, "P9: errors", want)
		if n := len(allOut(b)); n != 5 {
			t.Errorf("P9: errors: %d frames are sent, want 5", n)
		}
	}
	ticks(b, 100, theXid)
	wantSent(t, b, "P9: Failed", tells(otherCard, serverIP))
	wantLook(t, b, "P9: Failed", api.Look{Now: 109, Boots: 3, Phase: api.Failed})
}

func wide() api.Config {
	c := config()
	c.Block, c.Window, c.Cap = 1000, 6, 100000
	return c
}

// wantAgreed: blocks of so many bytes come in windows of so many.
func wantAgreed(t *testing.T, b *boot.Boot, what string, id uint16, block, window int) {
	t.Helper()
	for n := 1; n <= 2*window; n++ {
		if block < api.MaxBlock {
			wantSent(t, b, what+": more bytes than a block", served(serverPort, data(uint16(n), strings.Repeat("k", block+1))))
		}
		comes(t, b, served(serverPort, data(uint16(n), strings.Repeat("k", block))))
		if n%window == 0 {
			wantOut(t, b, what+": a window", sent(id, serverPort, acks(uint16(n))))
			id++
		}
		wantOut(t, b, what+": a block")
		wantLook(t, b, what+": a block", looks(3, api.Loading, n*block))
	}
}

func TestOptionsThatAreRight(t *testing.T) {
	for _, x := range []struct {
		fields        []api.Field
		block, window int
	}{
		{nil, 512, 1},
		{[]api.Field{field("blksize", "8")}, 8, 1},
		{[]api.Field{field("blksize", "9")}, 9, 1},
		{[]api.Field{field("blksize", "100")}, 100, 1},
		{[]api.Field{field("blksize", "512")}, 512, 1},
		{[]api.Field{field("blksize", "999")}, 999, 1},
		{[]api.Field{field("blksize", "1000")}, 1000, 1},
		{[]api.Field{field("windowsize", "1")}, 512, 1},
		{[]api.Field{field("windowsize", "2")}, 512, 2},
		{[]api.Field{field("windowsize", "6")}, 512, 6},
		{[]api.Field{field("tsize", "0")}, 512, 1},
		{[]api.Field{field("tsize", "1")}, 512, 1},
		{[]api.Field{field("tsize", "10")}, 512, 1},
		{[]api.Field{field("tsize", "99999")}, 512, 1},
		{[]api.Field{field("tsize", "100000")}, 512, 1},
		{[]api.Field{field("blksize", "16"), field("windowsize", "3"), field("tsize", "7")}, 16, 3},
		{[]api.Field{field("tsize", "7"), field("windowsize", "3"), field("blksize", "16")}, 16, 3},
		{[]api.Field{field("windowsize", "3"), field("tsize", "7"), field("blksize", "16")}, 16, 3},
		{[]api.Field{field("windowsize", "5"), field("blksize", "8")}, 8, 5},
	} {
		b := loading(t, wide(), x.fields...)
		wantAgreed(t, b, "P9: options", 4, x.block, x.window)
	}
}

// Names of fields may have great letters.
func TestOptionsWithGreatLetters(t *testing.T) {
	b := reading(t, wide())
	l := serving(serverPort, options())
	l.udp.Load = "\x00\x06BlkSize\x0010\x00WINDOWSIZE\x002\x00"
	wantSent(t, b, "P9: options", l.datagramFrame(), sent(3, serverPort, acks(0)))
	wantAgreed(t, b, "P9: options", 4, 10, 2)
}

func TestOptionsAtTheBounds(t *testing.T) {
	c := config()
	c.Block, c.Window, c.Cap = 1024, 8, 600000
	b := loading(t, c, field("blksize", "1024"), field("windowsize", "8"), field("tsize", "600000"))
	wantAgreed(t, b, "P9: options", 4, 1024, 8)
	c.Block, c.Window, c.Cap = 8, 1, 1
	b = loading(t, c, field("tsize", "1"), field("windowsize", "1"), field("blksize", "8"))
	wantSent(t, b, "P9: options", served(serverPort, data(1, "012345678")))
	wantSent(t, b, "P9: options", served(serverPort, data(1, "1")), sent(4, serverPort, acks(1)))
}

// wantRefused: options, by an error to the port that they are from; the attempt fails.
func wantRefused(t *testing.T, c api.Config, m api.TFTP, code uint16, text string) {
	t.Helper()
	for _, port := range []uint16{serverPort, otherPort} {
		b := reading(t, c)
		wantSent(t, b, "P9: options that are wrong", served(port, m), sent(3, port, failure(code, text)))
		wantLook(t, b, "P9: options that are wrong", api.Look{Now: 3, Boots: 1})
		wantSent(t, b, "P9: behind them", served(port, options()))
		ticks(b, 1, 7)
		wantOut(t, b, "P9: behind them", aDiscover(4, 7))
	}
}

func TestOptionsThatAreWrong(t *testing.T) {
	for name, values := range map[string][]string{
		"blksize":    {"0", "1", "7", "1001", "1024", "9999999", "08", "0512", "512.", "5e2", "+8", "-8", "0x10", "1_0", "x", "8x", "x8", "8,", "10000000", "00000008", "99999999999999999999999"},
		"windowsize": {"0", "7", "8", "01", "1.0", "+1", "-1", "one", "1_", "10000000", "4294967297", "18446744073709551617"},
		"tsize":      {"00", "01", "-1", "-0", "+0", "x", "1x", "0x0", "1e3", "10000000", "12345678", "00000001", "00100000", "4294967296", "18446744073709551616", strings.Repeat("9", 300)},
		"other":      {"0", "1", "8"},
		"timeout":    {"1"},
		"blksize2":   {"8"},
		"blksiz":     {"8"},
		"size":       {"8"},
		"~":          {"~"},
	} {
		for _, v := range values {
			wantRefused(t, wide(), options(field(name, v)), 8, "option")
			if name != "tsize" {
				wantRefused(t, wide(), options(field("tsize", "5"), field(name, v)), 8, "option")
			}
		}
	}
}

// The block and the window that may be are those of the configuration, not the bounds.
func TestOptionsAboveTheConfiguration(t *testing.T) {
	for block := 8; block < 12; block++ {
		for told := 7; told < 14; told++ {
			c := config()
			c.Block, c.Window = block, block-7
			if told <= block && told >= 8 {
				loading(t, c, field("blksize", strconv.Itoa(told)))
			} else {
				wantRefused(t, c, options(field("blksize", strconv.Itoa(told))), 8, "option")
			}
			if told-7 <= c.Window && told-7 >= 1 {
				loading(t, c, field("windowsize", strconv.Itoa(told-7)))
			} else {
				wantRefused(t, c, options(field("windowsize", strconv.Itoa(told-7))), 8, "option")
			}
		}
	}
}

func TestSizesAboveCap(t *testing.T) {
	for _, v := range []string{"100001", "100010", "200000", "999999", "1000000", "9999999"} {
		wantRefused(t, wide(), options(field("tsize", v)), 3, "size")
		wantRefused(t, wide(), options(field("blksize", "8"), field("tsize", v), field("windowsize", "2")), 3, "size")
	}
	c := config()
	c.Cap = 1
	wantRefused(t, c, options(field("tsize", "2")), 3, "size")
	c.Cap = 600000
	wantRefused(t, c, options(field("tsize", "600001")), 3, "size")
}

// Of several fields that are wrong the first one counts.
func TestOptionsInOrder(t *testing.T) {
	wantRefused(t, wide(), options(field("tsize", "100001"), field("blksize", "7")), 3, "size")
	wantRefused(t, wide(), options(field("blksize", "7"), field("tsize", "100001")), 8, "option")
	wantRefused(t, wide(), options(field("other", "7"), field("tsize", "100001")), 8, "option")
	wantRefused(t, wide(), options(field("tsize", "100001"), field("other", "7")), 3, "size")
	wantRefused(t, wide(), options(field("windowsize", "2"), field("tsize", "100001"), field("windowsiz", "0")), 3, "size")
}

// What an attempt agreed to is not the next one's.
func TestOptionsOfAnotherAttempt(t *testing.T) {
	b := loading(t, wide(), field("blksize", "8"), field("windowsize", "3"))
	wantSent(t, b, "P9: a block", served(serverPort, data(1, "01234567")))
	comes(t, b, served(serverPort, failure(0, "")))
	b.Tick(theXid)
	comes(t, b, told(offer, theXid).frame(), told(ack, theXid).frame())
	ticks(b, 2, theXid)
	comes(t, b, tells(otherCard, serverIP))
	allOut(b)
	kept := looks(6, api.Reading, 0)
	kept.Boots = 1
	wantLook(t, b, "P9: another attempt", kept)
	wantSent(t, b, "P9: another attempt", served(otherPort, data(1, strings.Repeat("k", 512))), sent(7, otherPort, acks(1)))
	kept.Phase, kept.Bytes = api.Loading, 512
	wantLook(t, b, "P9: another attempt", kept)
}
