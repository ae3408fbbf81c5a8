// Package digest: SHA-256, as FIPS 180-4 says it.
package digest

import "math/bits"

const (
	// Size: bytes of a digest.
	Size = 32

	blockSize  = 64
	lengthSize = 8
)

// rounds: one word for each round: the first 32 bits of the fractional parts of the cube roots of the first 64 primes.
var rounds = [64]uint32{
	0x428a2f98, 0x71374491, 0xb5c0fbcf, 0xe9b5dba5, 0x3956c25b, 0x59f111f1, 0x923f82a4, 0xab1c5ed5,
	0xd807aa98, 0x12835b01, 0x243185be, 0x550c7dc3, 0x72be5d74, 0x80deb1fe, 0x9bdc06a7, 0xc19bf174,
	0xe49b69c1, 0xefbe4786, 0x0fc19dc6, 0x240ca1cc, 0x2de92c6f, 0x4a7484aa, 0x5cb0a9dc, 0x76f988da,
	0x983e5152, 0xa831c66d, 0xb00327c8, 0xbf597fc7, 0xc6e00bf3, 0xd5a79147, 0x06ca6351, 0x14292967,
	0x27b70a85, 0x2e1b2138, 0x4d2c6dfc, 0x53380d13, 0x650a7354, 0x766a0abb, 0x81c2c92e, 0x92722c85,
	0xa2bfe8a1, 0xa81a664b, 0xc24b8b70, 0xc76c51a3, 0xd192e819, 0xd6990624, 0xf40e3585, 0x106aa070,
	0x19a4c116, 0x1e376c08, 0x2748774c, 0x34b0bcb5, 0x391c0cb3, 0x4ed8aa4a, 0x5b9cca4f, 0x682e6ff3,
	0x748f82ee, 0x78a5636f, 0x84c87814, 0x8cc70208, 0x90befffa, 0xa4506ceb, 0xbef9a3f7, 0xc67178f2,
}

// state: the eight words that the blocks are mixed into, one behind the other.
type state [8]uint32

// Of: the digest of s.
func Of(s string) [Size]byte {
	h := state{
		0x6a09e667, 0xbb67ae85, 0x3c6ef372, 0xa54ff53a,
		0x510e527f, 0x9b05688c, 0x1f83d9ab, 0x5be0cd19,
	}
	whole := len(s) / blockSize * blockSize
	h = h.mixedAll(s[:whole])
	h = h.mixedAll(ending(s[whole:], len(s)))
	return h.bytes()
}

// mixedAll: the state behind all blocks of s, which are whole.
func (h state) mixedAll(s string) state {
	for i := range len(s) / blockSize {
		h = h.mixed(s[i*blockSize : (i+1)*blockSize])
	}
	return h
}

// mixed: the state behind one block.
func (h state) mixed(block string) state {
	words := schedule(block)
	s := h
	for i, k := range rounds {
		s = s.round(k + words[i])
	}
	for i := range h {
		h[i] += s[i]
	}
	return h
}

func (h state) round(x uint32) state {
	choice := h[4]&h[5] ^ ^h[4]&h[6]
	majority := h[0]&h[1] ^ h[0]&h[2] ^ h[1]&h[2]
	one := h[7] + turned(h[4], 6, 11, 25) + choice + x
	two := turned(h[0], 2, 13, 22) + majority
	return state{one + two, h[0], h[1], h[2], h[3] + one, h[4], h[5], h[6]}
}

func (h state) bytes() [Size]byte {
	var out [Size]byte
	for i := range out {
		out[i] = byte(h[i/4] >> (24 - 8*(i%4)))
	}
	return out
}

// schedule: a block's 16 words, and the 48 that are made of them.
func schedule(block string) [64]uint32 {
	var w [64]uint32
	for i := range blockSize {
		w[i/4] = w[i/4]<<8 | uint32(block[i])
	}
	for i := 16; i < len(w); i++ {
		near, far := w[i-2], w[i-15]
		w[i] = w[i-16] + w[i-7] + (turned(near, 17, 19) ^ near>>10) + (turned(far, 7, 18) ^ far>>3)
	}
	return w
}

// turned: x turned to the right by each of these numbers of bits, all of these in one by exclusive or.
func turned(x uint32, by ...int) uint32 {
	var out uint32
	for _, n := range by {
		out ^= bits.RotateLeft32(x, -n)
	}
	return out
}

// ending: what is left of a text of so many bytes behind its whole blocks, filled up to one block more, or to two where its length has no room in one.
func ending(left string, length int) string {
	out := append([]byte(left), 0x80)
	for len(out)%blockSize != blockSize-lengthSize {
		out = append(out, 0)
	}
	inBits := uint64(length) * 8
	for i := range lengthSize {
		out = append(out, byte(inBits>>(56-8*i)))
	}
	return string(out)
}
