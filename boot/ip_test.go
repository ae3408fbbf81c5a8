package boot_test

import (
	"strings"
	"testing"

	"netboot/api"
	"netboot/boot"
)

// ipHead: of a packet with 95 bytes behind it.
const ipHead = "\x45\x00\x00\x73\x00\x00\x40\x00\x40\x11\xb8\x61\xc0\xa8\x00\x01\xc0\xa8\x00\xc7"

// packet: of ipHead.
func packet(load string) api.IPv4 {
	return api.IPv4{TTL: 64, Proto: 17, From: 0xc0a80001, To: 0xc0a800c7, Load: load}
}

// setWord: n stands at a place of b.
func setWord(b []byte, at int, n uint16) { b[at], b[at+1] = byte(n>>8), byte(n) }

// ipWith: ipHead with a change and the sum that is right then.
func ipWith(change func(head []byte)) string {
	head := []byte(ipHead)
	change(head)
	setWord(head, 10, 0)
	setWord(head, 10, slowCheck(string(head)))
	return string(head)
}

// ipLong: ipHead with another length.
func ipLong(n int) string { return ipWith(func(h []byte) { setWord(h, 2, uint16(n)) }) }

func wantPacket(t *testing.T, s string, want api.IPv4, wrong api.Errno) {
	t.Helper()
	if got, e := boot.ReadIP(s); got != want || e != wrong {
		t.Errorf("P4: ReadIP(%.60x), of %d bytes = %v, %d, want %v, %d", s, len(s), got, e, want, wrong)
	}
}

func wantPacketBytes(t *testing.T, p api.IPv4, want string, wrong api.Errno) {
	t.Helper()
	if got, e := boot.WriteIP(p); got != want || e != wrong {
		t.Errorf("P4: WriteIP(%v) = %x, %d, want %x, %d", p, got, e, want, wrong)
	}
}

func TestReadIP(t *testing.T) {
	load := noise(1, 95)
	wantPacket(t, ipHead+load, packet(load), api.OK)
	other := ipWith(func(h []byte) {
		copy(h[4:], "\xab\xcd\x00\x00\xff\x01")
		copy(h[12:], "\x01\x02\x03\x04\xff\xfe\xfd\xfc")
	})
	wantPacket(t, other+load, api.IPv4{ID: 0xabcd, TTL: 255, Proto: 1, From: 0x01020304, To: 0xfffefdfc, Load: load}, api.OK)
	service := ipWith(func(h []byte) { h[1] = 0xff })
	wantPacket(t, service+load, packet(load), api.OK)
}

func TestReadIPAtLengths(t *testing.T) {
	load := noise(2, 65535)
	for _, n := range []int{0, 1, 2, 95, 1480, 1481, 65515} {
		s := ipLong(20+n) + load[:n]
		wantPacket(t, s, packet(load[:n]), api.OK)
		wantPacket(t, s+"x", packet(load[:n]), api.OK)
		wantPacket(t, s+load, packet(load[:n]), api.OK)
		wantPacket(t, s[:len(s)-1], api.IPv4{}, api.ErrShort)
	}
	for n := range 20 {
		wantPacket(t, ipLong(n)+load, api.IPv4{}, api.ErrForm)
		wantPacket(t, ipLong(n), api.IPv4{}, api.ErrForm)
	}
	wantPacket(t, ipLong(21), api.IPv4{}, api.ErrShort)
	wantPacket(t, ipLong(0xffff)+load[:65514], api.IPv4{}, api.ErrShort)
}

func TestReadIPOfTooFewBytes(t *testing.T) {
	for n := range 20 {
		wantPacket(t, ipLong(20)[:n], api.IPv4{}, api.ErrShort)
		wantPacket(t, strings.Repeat("\xff", n), api.IPv4{}, api.ErrShort)
		wantPacket(t, strings.Repeat("\x00", n), api.IPv4{}, api.ErrShort)
	}
}

func TestReadIPOfVersionsAndHeads(t *testing.T) {
	load := noise(3, 95)
	for first := range 256 {
		s := ipWith(func(h []byte) { h[0] = byte(first) }) + load
		switch {
		case first == 0x45:
			wantPacket(t, s, packet(load), api.OK)
		case first > 0x45 && first < 0x50:
			wantPacket(t, s, api.IPv4{}, api.ErrOptions)
		default:
			wantPacket(t, s, api.IPv4{}, api.ErrForm)
		}
	}
}

func TestReadIPOfFlagsAndPart(t *testing.T) {
	load := noise(4, 95)
	with := func(part uint16) string { return ipWith(func(h []byte) { setWord(h, 6, part) }) + load }
	wantPacket(t, with(0), packet(load), api.OK)
	wantPacket(t, with(0x4000), packet(load), api.OK)
	for bit := range 14 {
		wantPacket(t, with(1<<bit), api.IPv4{}, api.ErrFragment)
		wantPacket(t, with(1<<bit|0x4000), api.IPv4{}, api.ErrFragment)
		wantPacket(t, with(1<<bit|0x8000), api.IPv4{}, api.ErrForm)
	}
	wantPacket(t, with(0x8000), api.IPv4{}, api.ErrForm)
	wantPacket(t, with(0xc000), api.IPv4{}, api.ErrForm)
	wantPacket(t, with(0xffff), api.IPv4{}, api.ErrForm)
}

func TestReadIPOfTTLs(t *testing.T) {
	load := noise(5, 95)
	for ttl := range 256 {
		s := ipWith(func(h []byte) { h[8] = byte(ttl) }) + load
		if ttl == 0 {
			wantPacket(t, s, api.IPv4{}, api.ErrForm)
			continue
		}
		want := packet(load)
		want.TTL = byte(ttl)
		wantPacket(t, s, want, api.OK)
	}
}

// The sum is of the head alone; the bits that are told ahead of it (the first byte, the length) are no matter here.
func TestReadIPOfWrongSums(t *testing.T) {
	load := noise(6, 95)
	for i := range 20 {
		if i == 0 || i == 2 || i == 3 {
			continue
		}
		for bit := range 8 {
			wrong := []byte(ipHead + load)
			wrong[i] ^= 1 << bit
			wantPacket(t, string(wrong), api.IPv4{}, api.ErrSum)
		}
	}
	for i := range load {
		other := []byte(load)
		other[i] ^= 0xff
		wantPacket(t, ipHead+string(other), packet(string(other)), api.OK)
	}
	shorter := []byte(ipHead + load)
	shorter[3]--
	wantPacket(t, string(shorter), api.IPv4{}, api.ErrSum)
}

// Of a head whose other words are ffff together, 0 and ffff are right sums; 0 is written.
func TestIPOfASumOfZero(t *testing.T) {
	p := packet("")
	rest := slowCheck("\x45\x00\x00\x14\x00\x00\x40\x00\x40\x11\xc0\xa8\x00\x01\xc0\xa8\x00\xc7")
	p.ID = rest
	s := ipWith(func(h []byte) { setWord(h, 2, 20); setWord(h, 4, rest) })
	if s[10:12] != "\x00\x00" {
		t.Fatalf("the head %x has another sum than 0", s)
	}
	wantPacketBytes(t, p, s, api.OK)
	wantPacket(t, s, p, api.OK)
	wantPacket(t, s[:10]+"\xff\xff"+s[12:], p, api.OK)
}

// ipFault: a change of a right packet, and its error. Two that are in one place cannot be there at once.
type ipFault struct {
	place  string
	change func(head []byte)
	wrong  api.Errno
}

// ipFaults: in the order in which they are told.
var ipFaults = []ipFault{
	{"first", func(h []byte) { h[0] = 0x55 }, api.ErrForm},
	{"first", func(h []byte) { h[0] = 0x56 }, api.ErrForm},
	{"first", func(h []byte) { h[0] = 0x44 }, api.ErrForm},
	{"first", func(h []byte) { h[0] = 0x46 }, api.ErrOptions},
	{"length", func(h []byte) { setWord(h, 2, 19) }, api.ErrForm},
	{"length", func(h []byte) { setWord(h, 2, 116) }, api.ErrShort},
	{"sum", nil, api.ErrSum},
	{"flags", func(h []byte) { h[6] |= 0x80 }, api.ErrForm},
	{"ttl", func(h []byte) { h[8] = 0 }, api.ErrForm},
	{"part", func(h []byte) { h[7] |= 1 }, api.ErrFragment},
}

func TestReadIPTellsTheFirstOfTwoErrors(t *testing.T) {
	load := noise(7, 95)
	for i, f := range ipFaults {
		for _, g := range ipFaults[i:] {
			if f.place == g.place && f.wrong != g.wrong {
				continue
			}
			s := []byte(ipWith(func(h []byte) {
				for _, fault := range []ipFault{g, f} {
					if fault.change != nil {
						fault.change(h)
					}
				}
			}))
			if f.place == "sum" || g.place == "sum" {
				s[11] ^= 1
			}
			wantPacket(t, string(s)+load, api.IPv4{}, f.wrong)
			wantPacket(t, string(s[:19]), api.IPv4{}, api.ErrShort)
		}
	}
}

func TestWriteIP(t *testing.T) {
	load := noise(8, 95)
	wantPacketBytes(t, packet(load), ipHead+load, api.OK)
	wantPacketBytes(t, packet(""), ipLong(20), api.OK)
	wantPacketBytes(t, packet("x"), ipLong(21)+"x", api.OK)
	least := ipWith(func(h []byte) {
		copy(h, "\x45\x00\x00\x14\x00\x00\x40\x00\x01\x00\x00\x00\x00\x00\x00\x00\x00\x00\x00\x00")
	})
	wantPacketBytes(t, api.IPv4{TTL: 1}, least, api.OK)
	most := noise(9, 1480)
	greatest := ipWith(func(h []byte) {
		copy(h, "\x45\x00\x05\xdc\xff\xff\x40\x00\xff\xff\x00\x00\xff\xff\xff\xff\xff\xff\xff\xff")
	})
	wantPacketBytes(t, api.IPv4{ID: 0xffff, TTL: 255, Proto: 255, From: 0xffffffff, To: 0xffffffff, Load: most}, greatest+most, api.OK)
}

func TestWriteIPOfWrongPackets(t *testing.T) {
	more := noise(10, api.MaxLoad-20+1)
	wantPacketBytes(t, api.IPv4{}, "", api.ErrForm)
	wantPacketBytes(t, api.IPv4{ID: 1, Proto: 17, From: 1, To: 2, Load: "x"}, "", api.ErrForm)
	wantPacketBytes(t, api.IPv4{Load: more}, "", api.ErrForm)
	wantPacketBytes(t, packet(more), "", api.ErrLong)
	wantPacketBytes(t, packet(strings.Repeat(more, 50)), "", api.ErrLong)
}

func TestIPThereAndBack(t *testing.T) {
	for n := range api.MaxLoad - 20 + 1 {
		p := api.IPv4{ID: uint16(n * 251), TTL: uint8(n%255 + 1), Proto: uint8(n), From: api.IP(n * 0x01234567), To: api.IP(n * 0x89abcde), Load: noise(int64(n), n)}
		s, e := boot.WriteIP(p)
		if e != api.OK || len(s) != 20+n {
			t.Errorf("P4: WriteIP of %d bytes has %d, %d", n, len(s), e)
		}
		wantPacket(t, s+strings.Repeat("\x00", max(0, 26-n)), p, api.OK)
	}
}
