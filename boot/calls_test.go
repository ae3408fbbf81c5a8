package boot_test

import (
	"strings"
	"sync"
	"testing"
	"unsafe"

	"netboot/api"
	"netboot/boot"
)

// odd: bytes of many lengths, right ones, pieces of them, and ones with a byte that is another.
func odd() []string {
	right := []string{
		frameHead + "\x08\x00hello",
		frameHead + "\x08\x06" + arpFirst + "\x00\x01" + arpRest,
		arpFirst + "\x00\x02" + arpRest,
		ipLong(25) + "hello",
		udpWith(68, 67, 13, "hello"),
		dhcpAreas(piece(3, "h")+"\xff", piece(1, "f")+"\xff", piece(53, "\x05")+piece(52, "\x03")+"\xff"),
		written(piece(53, "\x05") + "\xff"),
		"\x00\x01k\x00octet\x00tsize\x000\x00",
		"\x00\x03\x00\x01data",
		"\x00\x04\x00\x01",
		"\x00\x05\x00\x01no\x00",
		"\x00\x06BLKSIZE\x008\x00",
	}
	out := []string{strings.Repeat("\xff", 70000), strings.Repeat("\x00", 70000)}
	for _, s := range right {
		for i := range len(s) {
			out = append(out, s[:i], s[i:], s[:i]+string([]byte{^s[i]})+s[i+1:])
		}
	}
	for n := range 300 {
		out = append(out, noise(int64(n), n), strings.Repeat("\x00", n), strings.Repeat("\xff", n))
	}
	return out
}

// wantZero: with an error, a result that is not zero is a fault.
func wantZero(t *testing.T, call string, zero bool, e api.Errno) {
	t.Helper()
	if e < api.OK || e > api.ErrConfig {
		t.Errorf("P1: %s answers the error %d, which is none", call, e)
	}
	if e != api.OK && !zero {
		t.Errorf("P1: %s answers the error %d, and more beside it", call, e)
	}
}

func readAll(t *testing.T, s string) {
	f, e := boot.ReadEther(s)
	wantZero(t, "ReadEther", f == api.Ether{}, e)
	a, e := boot.ReadARP(s)
	wantZero(t, "ReadARP", a == api.ARP{}, e)
	p, e := boot.ReadIP(s)
	wantZero(t, "ReadIP", p == api.IPv4{}, e)
	u, e := boot.ReadUDP(s, 1, 2)
	wantZero(t, "ReadUDP", u == api.UDP{}, e)
	d, e := boot.ReadDHCP(s)
	wantZero(t, "ReadDHCP", sameMessage(d, api.DHCP{}), e)
	m, e := boot.ReadTFTP(s)
	wantZero(t, "ReadTFTP", sameTFTP(m, api.TFTP{}), e)
}

func writeAll(t *testing.T, s string, n uint16) {
	out, e := boot.WriteEther(api.Ether{Type: n, Load: s})
	wantZero(t, "WriteEther", out == "", e)
	out, e = boot.WriteARP(api.ARP{Op: n})
	wantZero(t, "WriteARP", out == "", e)
	out, e = boot.WriteIP(api.IPv4{TTL: uint8(n), Load: s})
	wantZero(t, "WriteIP", out == "", e)
	out, e = boot.WriteUDP(api.UDP{From: n, Load: s}, 1, 2)
	wantZero(t, "WriteUDP", out == "", e)
	out, e = boot.WriteDHCP(api.DHCP{Options: []api.Option{{Code: uint8(n), Data: s}}})
	wantZero(t, "WriteDHCP", out == "", e)
	out, e = boot.WriteTFTP(api.TFTP{Op: n, Text: s, Data: s, Fields: []api.Field{{Name: s, Value: s}}})
	wantZero(t, "WriteTFTP", out == "", e)
}

func TestCallsAtOddBytes(t *testing.T) {
	for i, s := range odd() {
		if len(boot.Hash(s)) != 32 {
			t.Errorf("P1: Hash(%.40x) has %d bytes", s, len(boot.Hash(s)))
		}
		boot.Check(s)
		readAll(t, s)
		writeAll(t, s, uint16(i))
		writeAll(t, s, uint16(i*257))
	}
}

// The same again, and from several sides at once: nothing is kept from call to call.
func TestCallsDoNotHangOnEachOther(t *testing.T) {
	var all sync.WaitGroup
	for k := range 4 {
		all.Go(func() {
			s := frameHead + "\x08\x00" + noise(int64(k), 100)
			sum, word := boot.Hash(s), boot.Check(s)
			f, _ := boot.ReadEther(s)
			for range 200 {
				boot.ReadEther(s[:k])
				if g, e := boot.ReadEther(s); g != f || e != api.OK || boot.Hash(s) != sum || boot.Check(s) != word {
					t.Errorf("P1: other answers at the same bytes: %v, %d", g, e)
				}
			}
		})
	}
	all.Wait()
}

// An answer shares no memory with what was handed in.
func TestAnswersAreNewMemory(t *testing.T) {
	apart := func(call, s, answer string) {
		t.Helper()
		first, at := uintptr(unsafe.Pointer(unsafe.StringData(s))), uintptr(unsafe.Pointer(unsafe.StringData(answer)))
		if answer == "" || at >= first && at < first+uintptr(len(s)) {
			t.Errorf("P1: the answer %q of %s shares memory with what was handed in", answer, call)
		}
	}
	s := strings.Clone(frameHead + "\x08\x00hello")
	f, _ := boot.ReadEther(s)
	apart("ReadEther", s, f.Load)
	s = ipLong(25) + "hello"
	p, _ := boot.ReadIP(s)
	apart("ReadIP", s, p.Load)
	s = udpWith(68, 67, 13, "hello")
	u, _ := boot.ReadUDP(s, udpFrom, udpTo)
	apart("ReadUDP", s, u.Load)
	s = dhcpWith(piece(12, "hello") + "\xff")
	d, _ := boot.ReadDHCP(s)
	apart("ReadDHCP", s, d.Options[0].Data)
	s = strings.Clone("\x00\x01kernel\x00octet\x00tsize\x001234\x00")
	m, _ := boot.ReadTFTP(s)
	apart("ReadTFTP", s, m.Text)
	apart("ReadTFTP", s, m.Fields[0].Name)
	apart("ReadTFTP", s, m.Fields[0].Value)
	s = strings.Clone("\x00\x03\x00\x01hello")
	m, _ = boot.ReadTFTP(s)
	apart("ReadTFTP", s, m.Data)
	s = strings.Clone("\x00\x05\x00\x01hello\x00")
	m, _ = boot.ReadTFTP(s)
	apart("ReadTFTP", s, m.Text)
}

func TestCallsOfAMachine(t *testing.T) {
	c := api.Config{Card: api.MAC{2, 0, 0, 0, 0, 42}, Name: "k", Cap: 100, Digest: boot.Hash("k"), Block: 8, Window: 2, Rx: 1, Tx: 1}
	b, e := boot.New(c)
	if e != api.OK {
		t.Fatalf("P1: New(%v): %d", c, e)
	}
	for i, s := range odd() {
		b.Put(s)
		b.Tick(uint32(i) * 0x01010101)
		b.Poll(i - 10)
		b.Take()
		b.Look()
		if s, ok := b.Image(); !ok && s != "" {
			t.Errorf("P1: Image() = %x, %v", s, ok)
		}
	}
}
