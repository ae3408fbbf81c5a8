package boot_test

import (
	"strings"
	"testing"

	"netboot/api"
	"netboot/boot"
)

const (
	arpFirst = "\x00\x01\x08\x00\x06\x04"
	arpRest  = "\x02\x00\x00\x00\x00\x2a\x0a\x00\x00\x37\xf1\xf2\xf3\xf4\xf5\xf6\xc0\xa8\x01\xfe"
)

// arp: of arpRest.
func arp(op uint16) api.ARP {
	return api.ARP{Op: op, FromMAC: api.MAC{2, 0, 0, 0, 0, 42}, FromIP: 0x0a000037, ToMAC: api.MAC{0xf1, 0xf2, 0xf3, 0xf4, 0xf5, 0xf6}, ToIP: 0xc0a801fe}
}

func wantARP(t *testing.T, s string, want api.ARP, wrong api.Errno) {
	t.Helper()
	if got, e := boot.ReadARP(s); got != want || e != wrong {
		t.Errorf("P3: ReadARP(%x) = %v, %d, want %v, %d", s, got, e, want, wrong)
	}
}

func TestReadARP(t *testing.T) {
	wantARP(t, arpFirst+"\x00\x01"+arpRest, arp(1), api.OK)
	wantARP(t, arpFirst+"\x00\x02"+arpRest, arp(2), api.OK)
	wantARP(t, arpFirst+"\x00\x01"+strings.Repeat("\x00", 20), api.ARP{Op: 1}, api.OK)
	for _, behind := range []string{"\x00", "x", strings.Repeat("\x00", 18), strings.Repeat("\xff", 5000)} {
		wantARP(t, arpFirst+"\x00\x02"+arpRest+behind, arp(2), api.OK)
	}
}

func TestReadARPOfWrongBytes(t *testing.T) {
	right := arpFirst + "\x00\x01" + arpRest
	for n := range 28 {
		wantARP(t, right[:n], api.ARP{}, api.ErrShort)
		wantARP(t, strings.Repeat("\xff", n), api.ARP{}, api.ErrShort)
	}
	for i := range arpFirst {
		for _, turn := range []byte{1, 0x80, 0xff} {
			wrong := []byte(right)
			wrong[i] ^= turn
			wantARP(t, string(wrong), api.ARP{}, api.ErrForm)
		}
	}
	for _, op := range []string{"\x00\x00", "\x00\x03", "\x01\x00", "\x01\x01", "\x02\x00", "\xff\xff"} {
		wantARP(t, arpFirst+op+arpRest, api.ARP{}, api.ErrForm)
		wantARP(t, arpFirst+op+arpRest+"more", api.ARP{}, api.ErrForm)
		wantARP(t, (arpFirst + op + arpRest)[:27], api.ARP{}, api.ErrShort)
	}
}

func TestWriteARP(t *testing.T) {
	for _, c := range []struct {
		op    uint16
		want  string
		wrong api.Errno
	}{
		{0, "", api.ErrForm},
		{1, arpFirst + "\x00\x01" + arpRest, api.OK},
		{2, arpFirst + "\x00\x02" + arpRest, api.OK},
		{3, "", api.ErrForm},
		{0x0100, "", api.ErrForm},
		{0x0101, "", api.ErrForm},
		{0xffff, "", api.ErrForm},
	} {
		if got, e := boot.WriteARP(arp(c.op)); got != c.want || e != c.wrong {
			t.Errorf("P3: WriteARP of op %d = %x, %d, want %x, %d", c.op, got, e, c.want, c.wrong)
		}
	}
}

func TestARPInAFrame(t *testing.T) {
	load, _ := boot.WriteARP(arp(1))
	s, e := boot.WriteEther(frame(0x0806, load))
	if e != api.OK || len(s) != 60 || s[42:] != strings.Repeat("\x00", 18) {
		t.Errorf("P3: an ARP in a frame is %x, %d", s, e)
	}
	f, _ := boot.ReadEther(s)
	wantARP(t, f.Load, arp(1), api.OK)
}
