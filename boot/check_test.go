package boot_test

import (
	"math/big"
	"strings"
	"testing"

	"netboot/boot"
)

// slowCheck: the sum by its words in the document: all words together at first, and only then what is carried.
func slowCheck(s string) uint16 {
	if len(s)%2 == 1 {
		s += "\x00"
	}
	sum := new(big.Int)
	for i := 0; i < len(s); i += 2 {
		sum.Add(sum, big.NewInt(int64(s[i])<<8+int64(s[i+1])))
	}
	limit := big.NewInt(1 << 16)
	for sum.Cmp(limit) >= 0 {
		carried, low := new(big.Int).DivMod(sum, limit, new(big.Int))
		sum.Add(carried, low)
	}
	return ^uint16(sum.Uint64())
}

func TestCheckOfKnownBytes(t *testing.T) {
	for _, c := range []struct {
		s    string
		want uint16
	}{
		{"", 0xffff},
		{"\x00\x01\xf2\x03\xf4\xf5\xf6\xf7", 0x220d},
		{"\x00", 0xffff},
		{"\x00\x00", 0xffff},
		{"\x01", 0xfeff},
		{"\xff", 0x00ff},
		{"\x00\xff", 0xff00},
		{"\xff\xff", 0},
		{"\x12\x34\x56", 0x97cb},
		{"\xff\xff\x00\x01", 0xfffe},
		{"\x80\x00\x80\x00", 0xfffe},
		{"\xff\xff\xff\xff", 0},
		{"\x45\x00\x00\x73\x00\x00\x40\x00\x40\x11\xb8\x61\xc0\xa8\x00\x01\xc0\xa8\x00\xc7", 0},
	} {
		if got := boot.Check(c.s); got != c.want {
			t.Errorf("P2: Check(%x) = %04x, want %04x", c.s, got, c.want)
		}
	}
}

func TestCheckAtManyLengths(t *testing.T) {
	for n := range 200 {
		for _, s := range []string{noise(int64(n), n), strings.Repeat("\xff", n), strings.Repeat("\x80\x00", n)} {
			if got, want := boot.Check(s), slowCheck(s); got != want {
				t.Errorf("P2: Check(%x) = %04x, want %04x", s, got, want)
			}
		}
	}
}

// So many words that neither 16 nor 32 bits hold them together.
func TestCheckOfLongTexts(t *testing.T) {
	for _, s := range []string{
		strings.Repeat("\xff\xff", 70000),
		strings.Repeat("\x80\x00", 1<<17),
		strings.Repeat("\xff\xfe", 1<<17) + "\x7f",
		noise(1, 600001),
	} {
		if got, want := boot.Check(s), slowCheck(s); got != want {
			t.Errorf("P2: Check of %d bytes = %04x, want %04x", len(s), got, want)
		}
	}
}
