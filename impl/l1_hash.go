package impl

import "math/bits"

const MaxInput = 65535

const (
	blockSize = 64
	hashSize  = 32
	maxExpand = 255 * hashSize
)

// The round constants of FIPS 180-4.
var roundWords = [64]uint32{
	0x428a2f98, 0x71374491, 0xb5c0fbcf, 0xe9b5dba5, 0x3956c25b, 0x59f111f1, 0x923f82a4, 0xab1c5ed5,
	0xd807aa98, 0x12835b01, 0x243185be, 0x550c7dc3, 0x72be5d74, 0x80deb1fe, 0x9bdc06a7, 0xc19bf174,
	0xe49b69c1, 0xefbe4786, 0x0fc19dc6, 0x240ca1cc, 0x2de92c6f, 0x4a7484aa, 0x5cb0a9dc, 0x76f988da,
	0x983e5152, 0xa831c66d, 0xb00327c8, 0xbf597fc7, 0xc6e00bf3, 0xd5a79147, 0x06ca6351, 0x14292967,
	0x27b70a85, 0x2e1b2138, 0x4d2c6dfc, 0x53380d13, 0x650a7354, 0x766a0abb, 0x81c2c92e, 0x92722c85,
	0xa2bfe8a1, 0xa81a664b, 0xc24b8b70, 0xc76c51a3, 0xd192e819, 0xd6990624, 0xf40e3585, 0x106aa070,
	0x19a4c116, 0x1e376c08, 0x2748774c, 0x34b0bcb5, 0x391c0cb3, 0x4ed8aa4a, 0x5b9cca4f, 0x682e6ff3,
	0x748f82ee, 0x78a5636f, 0x84c87814, 0x8cc70208, 0x90befffa, 0xa4506ceb, 0xbef9a3f7, 0xc67178f2,
}

// A taker is given a text piece by piece; how it is cut makes no difference.
type taker interface {
	take(piece string)
}

func takeAll(to taker, pieces ...string) {
	for _, piece := range pieces {
		to.take(piece)
	}
}

// A runningHash is a plain value: a copy of it goes on by itself from where it was copied.
type runningHash struct {
	state  [8]uint32
	block  [blockSize]byte
	filled int
	size   uint64
}

func newHash() runningHash {
	return runningHash{state: [8]uint32{
		0x6a09e667, 0xbb67ae85, 0x3c6ef372, 0xa54ff53a,
		0x510e527f, 0x9b05688c, 0x1f83d9ab, 0x5be0cd19,
	}}
}

func (h *runningHash) take(piece string) {
	h.size += uint64(len(piece))
	for len(piece) > 0 {
		n := copy(h.block[h.filled:], piece)
		piece = piece[n:]
		h.filled += n
		if h.filled == blockSize {
			h.mixBlock()
			h.filled = 0
		}
	}
}

// sum pads a copy, so that the hash may be given more afterwards.
func (h *runningHash) sum() string {
	last := *h
	last.take("\x80")
	for last.filled != blockSize-8 {
		last.take("\x00")
	}
	last.take(bigEndian(h.size*8, 8))
	out := ""
	for _, word := range last.state {
		out += bigEndian(uint64(word), 4)
	}
	return out
}

func (h *runningHash) mixBlock() {
	words := schedule(h.block)
	s := h.state
	a, b, c, d, e, f, g, last := s[0], s[1], s[2], s[3], s[4], s[5], s[6], s[7]
	for i, word := range words {
		high := bits.RotateLeft32(e, -6) ^ bits.RotateLeft32(e, -11) ^ bits.RotateLeft32(e, -25)
		choice := e&f ^ ^e&g
		first := last + high + choice + word + roundWords[i]
		low := bits.RotateLeft32(a, -2) ^ bits.RotateLeft32(a, -13) ^ bits.RotateLeft32(a, -22)
		majority := a&b ^ a&c ^ b&c
		a, b, c, d, e, f, g, last = first+low+majority, a, b, c, d+first, e, f, g
	}
	for i, word := range [8]uint32{a, b, c, d, e, f, g, last} {
		h.state[i] += word
	}
}

func schedule(block [blockSize]byte) [64]uint32 {
	var words [64]uint32
	for i := range 16 {
		for _, b := range block[4*i : 4*i+4] {
			words[i] = words[i]<<8 | uint32(b)
		}
	}
	for i := 16; i < 64; i++ {
		a, b := words[i-15], words[i-2]
		low := bits.RotateLeft32(a, -7) ^ bits.RotateLeft32(a, -18) ^ a>>3
		high := bits.RotateLeft32(b, -17) ^ bits.RotateLeft32(b, -19) ^ b>>10
		words[i] = words[i-16] + low + words[i-7] + high
	}
	return words
}

func bigEndian(n uint64, size int) string {
	out := make([]byte, size)
	for i := size - 1; i >= 0; i-- {
		out[i] = byte(n)
		n >>= 8
	}
	return string(out)
}

// A keyedHash holds both hashes with the key already taken, so that a copy of it spares doing that again.
type keyedHash struct {
	inner runningHash
	outer runningHash
}

func newKeyedHash(key string) keyedHash {
	if len(key) > blockSize {
		key = Sha256(key)
	}
	var block [blockSize]byte
	copy(block[:], key)
	k := keyedHash{inner: newHash(), outer: newHash()}
	k.inner.take(xorEach(block, 0x36))
	k.outer.take(xorEach(block, 0x5c))
	return k
}

func xorEach(block [blockSize]byte, mask byte) string {
	for i := range block {
		block[i] ^= mask
	}
	return string(block[:])
}

func (k *keyedHash) take(piece string) {
	k.inner.take(piece)
}

func (k *keyedHash) sum() string {
	last := k.outer
	last.take(k.inner.sum())
	return last.sum()
}

func hashOf(pieces ...string) string {
	h := newHash()
	takeAll(&h, pieces...)
	return h.sum()
}

func keyedHashOf(start keyedHash, pieces ...string) string {
	takeAll(&start, pieces...)
	return start.sum()
}

func Sha256(s string) string {
	return hashOf(s)
}

func Hmac(key string, s string) string {
	return keyedHashOf(newKeyedHash(key), s)
}

// Extract needs no case for the empty salt: as a key it is filled up with zeros anyway.
func Extract(salt string, key string) string {
	return Hmac(salt, key)
}

func Expand(key string, info string, n int) (string, bool) {
	if n < 0 || n > maxExpand {
		return "", false
	}
	start := newKeyedHash(key)
	var out []byte
	last := ""
	for i := 1; len(out) < n; i++ {
		last = keyedHashOf(start, last, info, bigEndian(uint64(i), 1))
		out = append(out, last...)
	}
	return string(out[:n]), true
}
