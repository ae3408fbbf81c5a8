package boot_test

import (
	"crypto/sha256"
	"encoding/hex"
	"math/rand"
	"strings"
	"testing"

	"netboot/api"
	"netboot/boot"
)

// noise: n bytes that are the same at every run.
func noise(seed int64, n int) string {
	b := make([]byte, n)
	rand.New(rand.NewSource(seed)).Read(b)
	return string(b)
}

func TestHashOfKnownTexts(t *testing.T) {
	for _, c := range []struct{ s, want string }{
		{"", "e3b0c44298fc1c149afbf4c8996fb92427ae41e4649b934ca495991b7852b855"},
		{"abc", "ba7816bf8f01cfea414140de5dae2223b00361a396177a9cb410ff61f20015ad"},
		{"abcdbcdecdefdefgefghfghighijhijkijkljklmklmnlmnomnopnopq", "248d6a61d20638b8e5c026930c3e6039a33ce45964ff2167f6ecedd419db06c1"},
	} {
		if got := hex.EncodeToString([]byte(boot.Hash(c.s))); got != c.want {
			t.Errorf("P2: Hash(%q) = %s, want %s", c.s, got, c.want)
		}
	}
}

// A block has 64 bytes, and the length has no room in it behind 55: all lengths around both, several blocks far.
func TestHashAtEveryLength(t *testing.T) {
	for n := range 260 {
		for _, s := range []string{noise(int64(n), n), strings.Repeat("\x00", n), strings.Repeat("\xff", n)} {
			if want := sha256.Sum256([]byte(s)); boot.Hash(s) != string(want[:]) {
				t.Errorf("P2: Hash of %d bytes = %x, want %x", n, boot.Hash(s), want)
			}
		}
	}
}

func TestHashOfLongTexts(t *testing.T) {
	for _, n := range []int{8191, 8192, 65535, 65536, api.MaxCap, 1 << 21} {
		s := noise(1, n)
		if want := sha256.Sum256([]byte(s)); boot.Hash(s) != string(want[:]) {
			t.Errorf("P2: Hash of %d bytes is wrong", n)
		}
	}
}
