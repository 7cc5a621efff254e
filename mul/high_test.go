package mul

import (
	"math"
	"testing"
)

const (
	top  = 1 << 63 // the highest bit alone: the least number
	ones = math.MaxUint64
)

// P6.1: words with and without the highest bit, 0, 1, all ones and 2^63.
func TestHighs(t *testing.T) {
	for _, c := range []struct{ a, b, high, first, both uint64 }{
		{0, 0, 0, 0, 0}, {1, 1, 0, 0, 0}, {0, ones, 0, 0, 0}, {ones, 0, 0, 0, 0}, {0, top, 0, 0, 0}, {top, 0, 0, 0, 0},
		{1, ones, 0, 0, ones}, {ones, 1, 0, ones, ones},
		{1, top, 0, 0, ones}, {top, 1, 0, ones, ones},
		{ones, ones, ones - 1, ones, 0},
		{top, top, 1 << 62, 3 << 62, 1 << 62},
		{ones, top, top - 1, ones, 0}, {top, ones, top - 1, top, 0},
		{2, top, 1, 1, ones}, {top, 2, 1, ones, ones},
		{top - 1, top - 1, 1<<62 - 1, 1<<62 - 1, 1<<62 - 1},
		{top - 1, top, 1<<62 - 1, 1<<62 - 1, 3 << 62}, {top, top - 1, 1<<62 - 1, 3 << 62, 3 << 62},
		{1 << 32, 1 << 32, 1, 1, 1}, {1 << 32, 1<<32 - 1, 0, 0, 0}, {0xffffffff, 0xffffffff, 0, 0, 0},
		{0xffffffff00000000, 1 << 32, 0xffffffff, ones, ones}, {1 << 32, 0xffffffff00000000, 0xffffffff, 0xffffffff, ones},
	} {
		if got := High(c.a, c.b); got != c.high {
			t.Errorf("High(%#x, %#x): %#x, not %#x", c.a, c.b, got, c.high)
		}
		if got := HighSigned(c.a, c.b, false); got != c.first {
			t.Errorf("HighSigned(%#x, %#x, false): %#x, not %#x", c.a, c.b, got, c.first)
		}
		if got := HighSigned(c.a, c.b, true); got != c.both {
			t.Errorf("HighSigned(%#x, %#x, true): %#x, not %#x", c.a, c.b, got, c.both)
		}
	}
}

// P6.1: all pairs of words, held against numbers as great as one likes.
func TestHighsByModel(t *testing.T) {
	for _, a := range someWords() {
		for _, b := range someWords() {
			if got, want := High(a, b), part(product(unsigned(a, 64), unsigned(b, 64)), 64, 64); got != want {
				t.Errorf("High(%#x, %#x): %#x, not %#x", a, b, got, want)
			}
			if got, want := HighSigned(a, b, false), part(product(signed(a, 64), unsigned(b, 64)), 64, 64); got != want {
				t.Errorf("HighSigned(%#x, %#x, false): %#x, not %#x", a, b, got, want)
			}
			if got, want := HighSigned(a, b, true), part(product(signed(a, 64), signed(b, 64)), 64, 64); got != want {
				t.Errorf("HighSigned(%#x, %#x, true): %#x, not %#x", a, b, got, want)
			}
		}
	}
}
