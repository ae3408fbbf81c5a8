package boot_test

import (
	"strings"
	"testing"

	"netboot/api"
	"netboot/boot"
)

const (
	udpFrom api.IP = 0x0a000001
	udpTo   api.IP = 0xc0a80137
)

// udpWith: a datagram from udpFrom to udpTo as it is told, with the sum that is right for it.
func udpWith(fromPort, toPort uint16, length int, load string) string {
	head := make([]byte, 8)
	setWord(head, 0, fromPort)
	setWord(head, 2, toPort)
	setWord(head, 4, uint16(length))
	ahead := []byte("\x0a\x00\x00\x01\xc0\xa8\x01\x37\x00\x11" + string(head[4:6]))
	summed := string(head) + load
	if length < len(summed) {
		summed = summed[:length]
	}
	setWord(head, 6, slowCheck(string(ahead)+summed))
	return string(head) + load
}

func wantDatagram(t *testing.T, s string, want api.UDP, wrong api.Errno) {
	t.Helper()
	if got, e := boot.ReadUDP(s, udpFrom, udpTo); got != want || e != wrong {
		t.Errorf("P4: ReadUDP(%.60x), of %d bytes = %v, %d, want %v, %d", s, len(s), got, e, want, wrong)
	}
}

func wantDatagramBytes(t *testing.T, u api.UDP, want string, wrong api.Errno) {
	t.Helper()
	if got, e := boot.WriteUDP(u, udpFrom, udpTo); got != want || e != wrong {
		t.Errorf("P4: WriteUDP(%v) = %x, %d, want %x, %d", u, got, e, want, wrong)
	}
}

// A datagram that was summed by hand: 0a00 + 0001 + c0a8 + 0137 + 0011 + 000a + 0044 + 0043 + 000a + 6869 is 134f5, so 34f6, turned cb09.
func TestUDPByHand(t *testing.T) {
	u := api.UDP{From: 68, To: 67, Load: "hi"}
	wantDatagram(t, "\x00\x44\x00\x43\x00\x0a\xcb\x09hi", u, api.OK)
	wantDatagramBytes(t, u, "\x00\x44\x00\x43\x00\x0a\xcb\x09hi", api.OK)
}

func TestReadUDP(t *testing.T) {
	load := noise(1, 65535)
	for _, n := range []int{0, 1, 2, 3, 100, 101, 1472, 1473, 65526, 65527} {
		want := api.UDP{From: 0xabcd, To: 0x1234, Load: load[:n]}
		s := udpWith(0xabcd, 0x1234, 8+n, load[:n])
		wantDatagram(t, s, want, api.OK)
		wantDatagram(t, s[:6]+"\x00\x00"+s[8:], want, api.OK)
		for _, behind := range []string{"\x00", "x", "behind", load} {
			wantDatagram(t, s+behind, want, api.OK)
		}
	}
}

func TestReadUDPOfTooFewBytes(t *testing.T) {
	right := udpWith(1, 2, 8, "")
	for n := range 8 {
		wantDatagram(t, right[:n], api.UDP{}, api.ErrShort)
		wantDatagram(t, strings.Repeat("\x00", n), api.UDP{}, api.ErrShort)
		wantDatagram(t, strings.Repeat("\xff", n), api.UDP{}, api.ErrShort)
	}
	wantDatagram(t, right, api.UDP{From: 1, To: 2}, api.OK)
}

func TestReadUDPOfLengths(t *testing.T) {
	for n := range 8 {
		wantDatagram(t, udpWith(1, 2, n, "hello"), api.UDP{}, api.ErrForm)
		wantDatagram(t, udpWith(1, 2, n, ""), api.UDP{}, api.ErrForm)
	}
	for n := 8; n <= 13; n++ {
		wantDatagram(t, udpWith(1, 2, n, "hello"), api.UDP{From: 1, To: 2, Load: "hello"[:n-8]}, api.OK)
	}
	for _, n := range []int{14, 15, 256, 0xffff} {
		wantDatagram(t, udpWith(1, 2, n, "hello"), api.UDP{}, api.ErrShort)
	}
	wantDatagram(t, udpWith(1, 2, 9, ""), api.UDP{}, api.ErrShort)
}

func TestReadUDPOfWrongSums(t *testing.T) {
	for _, load := range []string{"", "x", "hello", "jelly!"} {
		right := udpWith(0x1f2e, 0x3d4c, 8+len(load), load)
		for i := range right {
			if i == 4 || i == 5 {
				continue
			}
			for bit := range 8 {
				wrong := []byte(right + "behind")
				wrong[i] ^= 1 << bit
				wantDatagram(t, string(wrong), api.UDP{}, api.ErrSum)
			}
		}
	}
	s := udpWith(1, 2, 13, "hello")
	wantDatagram(t, s[:5]+"\x0c"+s[6:], api.UDP{}, api.ErrSum)
	wantDatagram(t, s[:6]+"\xff\xff"+s[8:], api.UDP{}, api.ErrSum)
}

// A sum of 0 as it stands says that there is none.
func TestReadUDPWithoutASum(t *testing.T) {
	wantDatagram(t, "\x00\x01\x00\x02\x00\x08\x00\x00", api.UDP{From: 1, To: 2}, api.OK)
	wantDatagram(t, "\xff\xff\x00\x00\x00\x0d\x00\x00hellobehind", api.UDP{From: 0xffff, Load: "hello"}, api.OK)
	wantDatagram(t, "\x00\x01\x00\x02\x00\x07\x00\x00", api.UDP{}, api.ErrForm)
	wantDatagram(t, "\x00\x01\x00\x02\x00\x09\x00\x00", api.UDP{}, api.ErrShort)
	wantDatagram(t, "\x00\x01\x00\x02\x00\x08\x00\x01", api.UDP{}, api.ErrSum)
	wantDatagram(t, "\x00\x01\x00\x02\x00\x08\x01\x00", api.UDP{}, api.ErrSum)
}

func TestReadUDPTellsTheFirstOfTwoErrors(t *testing.T) {
	form, short := udpWith(1, 2, 7, "hello"), udpWith(1, 2, 14, "hello")
	for _, sum := range []string{form[6:8], short[6:8], "\x00\x00", "\x12\x34"} {
		wantDatagram(t, form[:6]+sum+form[8:], api.UDP{}, api.ErrForm)
		wantDatagram(t, short[:6]+sum+short[8:], api.UDP{}, api.ErrShort)
	}
	wantDatagram(t, form[:7], api.UDP{}, api.ErrShort)
	wantDatagram(t, short[:7], api.UDP{}, api.ErrShort)
}

// The addresses are summed, too: each bit of both counts.
func TestReadUDPBetweenOtherAddresses(t *testing.T) {
	s := udpWith(1, 2, 13, "hello")
	none := s[:6] + "\x00\x00" + s[8:]
	want := api.UDP{From: 1, To: 2, Load: "hello"}
	for bit := range 32 {
		for _, c := range [][2]api.IP{{udpFrom ^ 1<<bit, udpTo}, {udpFrom, udpTo ^ 1<<bit}} {
			if got, e := boot.ReadUDP(s, c[0], c[1]); got != (api.UDP{}) || e != api.ErrSum {
				t.Errorf("P4: ReadUDP between %x = %v, %d, want an error of the sum", c, got, e)
			}
			if got, e := boot.ReadUDP(none, c[0], c[1]); got != want || e != api.OK {
				t.Errorf("P4: ReadUDP without a sum, between %x = %v, %d", c, got, e)
			}
		}
	}
	if got, e := boot.ReadUDP(s, udpTo, udpFrom); got != want || e != api.OK {
		t.Errorf("P4: ReadUDP the other way = %v, %d", got, e)
	}
}

func TestWriteUDP(t *testing.T) {
	load := noise(2, api.MaxLoad-28)
	for n := range len(load) + 1 {
		u := api.UDP{From: uint16(n * 257), To: 69, Load: load[:n]}
		want := udpWith(u.From, u.To, 8+n, u.Load)
		wantDatagramBytes(t, u, want, api.OK)
		wantDatagram(t, want, u, api.OK)
	}
}

func TestWriteUDPOfTooMuch(t *testing.T) {
	wantDatagramBytes(t, api.UDP{Load: noise(3, api.MaxLoad-28+1)}, "", api.ErrLong)
	wantDatagramBytes(t, api.UDP{From: 1, To: 2, Load: noise(3, 65528)}, "", api.ErrLong)
	wantDatagramBytes(t, api.UDP{From: 1, To: 2, Load: noise(3, 70000)}, "", api.ErrLong)
}

// The from port is so chosen that the sum would be 0, which says that there is none: ffff is as right.
func TestUDPOfASumOfZero(t *testing.T) {
	for _, load := range []string{"", "x", "hello"} {
		rest := udpWith(0, 67, 8+len(load), load)
		port := uint16(rest[6])<<8 | uint16(rest[7])
		s := udpWith(port, 67, 8+len(load), load)
		if s[6:8] != "\x00\x00" {
			t.Fatalf("the datagram %x has another sum than 0", s)
		}
		u := api.UDP{From: port, To: 67, Load: load}
		want := s[:6] + "\xff\xff" + s[8:]
		wantDatagramBytes(t, u, want, api.OK)
		wantDatagram(t, want, u, api.OK)
	}
}

// As it goes over the network: a datagram in a packet in a frame that was filled up.
func TestUDPInAFrame(t *testing.T) {
	u := api.UDP{From: 68, To: 67, Load: "k"}
	datagram, _ := boot.WriteUDP(u, udpFrom, udpTo)
	s, _ := boot.WriteIP(api.IPv4{ID: 7, TTL: 64, Proto: 17, From: udpFrom, To: udpTo, Load: datagram})
	s, _ = boot.WriteEther(frame(0x0800, s))
	f, _ := boot.ReadEther(s)
	p, e := boot.ReadIP(f.Load)
	if e != api.OK || p.Load != datagram {
		t.Errorf("P4: ReadIP(%x) = %v, %d", f.Load, p, e)
	}
	wantDatagram(t, p.Load, u, api.OK)
}
