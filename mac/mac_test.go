package mac_test

import (
	"math"
	"strings"
	"testing"

	"rotor/mac"
)

// The key of the document's example.
const k0, k1 = 0x0706050403020100, 0x0f0e0d0c0b0a0908

// counted is n bytes: 0, 1, 2 and so on, round behind 255.
func counted(n int) string {
	b := make([]byte, n)
	for i := range b {
		b[i] = byte(i)
	}
	return string(b)
}

// 2.1: texts of all lengths that matter (the words wanted are of another SipHash).
func TestSumOfLengths(t *testing.T) {
	for _, c := range []struct {
		n    int
		want uint64
	}{
		{0, 0x726fdb47dd0e0e31},
		{1, 0x74f839c593dc67fd},
		{7, 0xab0200f58b01d137},
		{8, 0x93f5f5799a932462},
		{9, 0x9e0082df0ba9e4b0},
		{15, 0xa129ca6149be45e5}, // the document's example
		{16, 0x3f2acc7f57c29bdb},
		{17, 0x699ae9f52cbe4794},
		{63, 0x958a324ceb064572},
		{255, 0xa9c169fec74db21a},
		{256, 0x999d0526d2a7bfd7},
		{257, 0x8a817b8d55b29748},
		{300, 0x4b0b710db6117839},
		{1000, 0xdb9b3ed69e31c9a6},
	} {
		if got := mac.Sum(k0, k1, counted(c.n)); got != c.want {
			t.Errorf("Sum of %d bytes is %016x; want %016x", c.n, got, c.want)
		}
	}
}

// 2.1: keys of both ends, and bytes that are all ones.
func TestSumOfKeys(t *testing.T) {
	for _, c := range []struct {
		k0, k1 uint64
		s      string
		want   uint64
	}{
		{0, 0, "abc", 0x3fc884964770eede},
		{0, 0, strings.Repeat("\xff", 23), 0xe3ee0976905202f3},
		{math.MaxUint64, math.MaxUint64, "abc", 0xbbd254af30212f5d},
		{math.MaxUint64, math.MaxUint64, strings.Repeat("\xff", 23), 0xbbabe7cd966accf6},
		{1, 1 << 63, "abc", 0x108167a79ce5c6f0},
		{1, 1 << 63, strings.Repeat("\xff", 23), 0xb26dbae5fb27d3a8},
	} {
		if got := mac.Sum(c.k0, c.k1, c.s); got != c.want {
			t.Errorf("Sum by %x, %x of %q is %016x; want %016x", c.k0, c.k1, c.s, got, c.want)
		}
	}
}

// 2.1: noughts at a text's end, and its length, are a part of it.
func TestSumTellsTextsApart(t *testing.T) {
	seen := map[uint64]int{}
	for n := range 600 {
		sum := mac.Sum(k0, k1, strings.Repeat("\x00", n))
		if m, ok := seen[sum]; ok {
			t.Errorf("%d and %d noughts have the same Sum", m, n)
		}
		seen[sum] = n
	}
}

// 2.1: keys of both signs; a nought ahead stays.
func TestTag(t *testing.T) {
	for _, c := range []struct {
		key     int
		s, want string
	}{
		{0, "", "1e924b9d737700d7"},
		{0, "r.3.0", "f5a084d3b7985115"},
		{1, "", "1ee5226bda466be4"},
		{1, "\x00\xff\x80", "b9876d37578960dc"},
		{-1, "", "35dd279ee86ce565"},
		{-1, "r.3.0", "679700894baa8c69"},
		{-2, "r.3.0", "f9c6bce76dcaa4d7"},
		{-2, "\x00\xff\x80", "ffc561bee1d8021b"},
		{1 << 40, "r.3.0", "bfe0ae19cdd56515"},
		{-(1 << 40), "r.3.0", "813a636f6ff2a6fb"},
		{12345678901, "r.3.0", "1c4d748a9d658ebf"},
		{math.MaxInt64, "r.3.0", "955c70512d48e5c5"},
		{math.MinInt64, "r.3.0", "eaa0f9aaf7f280a3"},
		{5, "r.203.0", "01b16b73802ffb00"},
	} {
		if got := mac.Tag(c.key, c.s); got != c.want {
			t.Errorf("Tag by %d of %q is %s; want %s", c.key, c.s, got, c.want)
		}
	}
}

// 2.1: Same, of texts of one length and of several.
func TestSame(t *testing.T) {
	for _, s := range []string{"", "a", "1e924b9d737700d7", "\x00", "\xff\xfe", counted(300)} {
		if again := string([]byte(s)); !mac.Same(s, again) {
			t.Errorf("%q is not the same as itself", s)
		}
		for _, other := range []string{s + "a", s + "\x00", "\x00" + s} {
			if mac.Same(s, other) || mac.Same(other, s) {
				t.Errorf("%q and %q are the same", s, other)
			}
		}
	}
}

// 2.1: one bit that is another, wherever it lies; two that would make up for each other.
func TestSameOfOneBit(t *testing.T) {
	const s = "1e924b9d737700d7"
	for i := range len(s) {
		for bit := range 8 {
			b := []byte(s)
			b[i] ^= 1 << bit
			if mac.Same(s, string(b)) || mac.Same(string(b), s) {
				t.Errorf("%q and %q are the same", s, b)
			}
		}
	}
	if mac.Same("ab", "ba") || mac.Same("aa", "bb") || mac.Same("A", "a") {
		t.Error("unlike texts are the same")
	}
}
