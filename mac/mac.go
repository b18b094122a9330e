// Package mac: tags of texts, by a key.
package mac

import "math/bits"

const (
	wordBytes = 8
	hexDigits = "0123456789abcdef"
)

// What the key is mixed with at first.
const (
	start0 = 0x736f6d6570736575
	start1 = 0x646f72616e646f6d
	start2 = 0x6c7967656e657261
	start3 = 0x7465646279746573
)

// Sum is the SipHash-2-4 of a text, by a key of two words.
func Sum(k0, k1 uint64, s string) uint64 {
	v := state{k0 ^ start0, k1 ^ start1, k0 ^ start2, k1 ^ start3}
	eat := func(w uint64) {
		v.v3 ^= w
		v.rounds(2)
		v.v0 ^= w
	}
	length := uint64(len(s))
	for len(s) >= wordBytes {
		eat(word(s[:wordBytes]))
		s = s[wordBytes:]
	}
	// The shift leaves of the length what is modulo 256.
	eat(word(s) | length<<56)
	v.v2 ^= 0xff
	v.rounds(4)
	return v.v0 ^ v.v1 ^ v.v2 ^ v.v3
}

// Tag is a text's tag by a number as a key: the 16 hexadecimal digits of Sum, of that number, and that number turned by 32 bits.
func Tag(key int, s string) string {
	k := uint64(key)
	return digits(Sum(k, bits.RotateLeft64(k, 32), s))
}

// Same says whether two texts are the same; it looks at every byte of both, if they are as long.
func Same(a, b string) bool {
	if len(a) != len(b) {
		return false
	}
	// No early end: how long it takes must not tell how much of a tag was guessed.
	var unlike byte
	for i := range len(a) {
		unlike |= a[i] ^ b[i]
	}
	return unlike == 0
}

// state is the four words that a text is mixed into.
type state struct{ v0, v1, v2, v3 uint64 }

func (v *state) rounds(n int) {
	for range n {
		v.v0 += v.v1
		v.v1 = bits.RotateLeft64(v.v1, 13) ^ v.v0
		v.v0 = bits.RotateLeft64(v.v0, 32)
		v.v2 += v.v3
		v.v3 = bits.RotateLeft64(v.v3, 16) ^ v.v2
		v.v0 += v.v3
		v.v3 = bits.RotateLeft64(v.v3, 21) ^ v.v0
		v.v2 += v.v1
		v.v1 = bits.RotateLeft64(v.v1, 17) ^ v.v2
		v.v2 = bits.RotateLeft64(v.v2, 32)
	}
}

// word is at most eight bytes as a number, the least ones first.
func word(s string) uint64 {
	var w uint64
	for i := range len(s) {
		w |= uint64(s[i]) << (8 * i)
	}
	return w
}

// digits is a word's 16 hexadecimal digits, the greatest first.
func digits(w uint64) string {
	var text [2 * wordBytes]byte
	for i := range text {
		w = bits.RotateLeft64(w, 4)
		text[i] = hexDigits[w&15]
	}
	return string(text[:])
}
