package amo

import (
	"math"
	"testing"
)

// places: about 0, in the middle, about the halves of the words, and the highest.
func places() []uint64 {
	return []uint64{0, 1, 7, 8, 9, 16, 0x80000000, 0x80000008, half, half + 1, top - 4, top, top + 4, ones - 16, ones - 8, ones - 7, ones - 4, ones - 3, ones - 1, ones}
}

func lengths() []int { return []int{0, 1, 2, 4, 8, 9, 16, 4096, math.MaxInt32, math.MaxInt} }

// P7.3: the Set of that piece, of length 0, too.
func TestReserve(t *testing.T) {
	for _, at := range places() {
		for _, n := range lengths() {
			if s := Reserve(at, n); s != (Set{At: at, Len: uint64(n)}) {
				t.Errorf("Reserve(%#x, %d): %+v", at, n, s)
			}
		}
	}
}

// P7.3: held is the piece itself, and none of another place or another length.
func TestHolds(t *testing.T) {
	for _, at := range places() {
		for _, n := range lengths() {
			s := Reserve(at, n)
			for _, other := range places() {
				for _, m := range append(lengths(), -1, -8, math.MinInt) {
					if got, want := s.Holds(other, m), n > 0 && at == other && n == m; got != want {
						t.Errorf("%+v.Holds(%#x, %d): %v", s, other, m, got)
					}
				}
			}
		}
	}
}

// P7.3: with Len 0 nothing is held, wherever it stands.
func TestNoneHolds(t *testing.T) {
	for _, s := range []Set{{}, {At: 16}, {At: ones}, Reserve(16, 0)} {
		for _, n := range []int{-1, 0, 1, 8} {
			if s.Holds(s.At, n) {
				t.Errorf("%+v holds %d bytes", s, n)
			}
		}
	}
	if (Set{At: 16, Len: ones}).Holds(16, -1) {
		t.Error("a length of -1 was taken for 2^64 - 1")
	}
}

// P7.3: pieces that touch, that have one byte in common, that have more, and that have none.
func TestBroken(t *testing.T) {
	s := Reserve(16, 8)
	for _, c := range []struct {
		at, n  uint64
		breaks bool
	}{
		{16, 8, true}, {16, 1, true}, {23, 1, true}, {20, 1, true}, {18, 4, true}, {8, 9, true}, {23, 8, true}, {8, 100, true}, {0, 17, true}, {0, ones, true}, {16, ones, true}, {23, ones, true},
		{8, 8, false}, {24, 8, false}, {15, 1, false}, {24, 1, false}, {0, 16, false}, {0, 1, false}, {24, ones, false}, {100, 8, false}, {ones, 1, false}, {ones, 8, false}, {ones - 7, 8, false}, {ones, 100, false},
		{16, 0, false}, {20, 0, false}, {23, 0, false}, {24, 0, false}, {15, 0, false}, {0, 0, false},
	} {
		want := s
		if c.breaks {
			want = Set{}
		}
		if got := s.Broken(c.at, c.n); got != want {
			t.Errorf("Broken(%d, %d): %+v, not %+v", c.at, c.n, got, want)
		}
	}
}

// P7.3: at the highest addresses nothing wraps to the lowest.
func TestBrokenHigh(t *testing.T) {
	for _, c := range []struct {
		s      Set
		at, n  uint64
		breaks bool
	}{
		{Reserve(ones-7, 8), ones - 7, 8, true}, {Reserve(ones-7, 8), ones, 1, true}, {Reserve(ones-7, 8), ones, ones, true}, {Reserve(ones-7, 8), ones - 8, 2, true},
		{Reserve(ones-7, 8), 0, ones, true}, {Reserve(ones-7, 8), 0, ones - 6, true}, {Reserve(ones-7, 8), ones - 4, 100, true},
		{Reserve(ones-7, 8), ones - 8, 1, false}, {Reserve(ones-7, 8), 0, 8, false}, {Reserve(ones-7, 8), 0, ones - 7, false}, {Reserve(ones-7, 8), ones - 15, 8, false}, {Reserve(ones-7, 8), ones, 0, false},
		{Reserve(ones-3, 8), 0, 4, false}, {Reserve(ones-3, 8), 0, 1, false}, {Reserve(ones-3, 8), ones - 4, 1, false}, {Reserve(ones-3, 8), ones - 4, 2, true}, {Reserve(ones-3, 8), ones, 1, true},
		{Reserve(ones, 1), ones, 1, true}, {Reserve(ones, 1), 0, ones, false}, {Reserve(ones, 1), ones - 1, 1, false}, {Reserve(ones, 1), ones - 1, 2, true},
		{Reserve(0, 8), ones, 1, false}, {Reserve(0, 8), ones, 2, false}, {Reserve(0, 8), ones - 3, 8, false}, {Reserve(0, 8), ones, ones, false}, {Reserve(0, 8), 0, 1, true},
		{Set{At: 1, Len: ones}, ones, 1, true}, {Set{At: 1, Len: ones}, 0, 1, false}, {Set{At: 1, Len: ones}, 0, 2, true}, {Set{At: ones, Len: ones}, 0, ones, false},
	} {
		want := c.s
		if c.breaks {
			want = Set{}
		}
		if got := c.s.Broken(c.at, c.n); got != want {
			t.Errorf("%+v.Broken(%#x, %#x): %+v, not %+v", c.s, c.at, c.n, got, want)
		}
	}
}

// P7.3: one of no bytes overlaps nothing, and so stays as it is.
func TestNoneBroken(t *testing.T) {
	for _, s := range []Set{{}, Reserve(16, 0), Reserve(ones, 0)} {
		for _, at := range places() {
			for _, n := range []uint64{0, 1, 8, top, ones} {
				if got := s.Broken(at, n); got != s {
					t.Errorf("%+v.Broken(%#x, %#x): %+v", s, at, n, got)
				}
			}
		}
	}
}

// P7.5: byte by byte about a piece: it is held as long as the bytes written are beside it, and from the first of its own on no more.
func TestHeldTillWritten(t *testing.T) {
	for _, n := range []int{1, 4, 8} {
		for _, at := range []uint64{32, 0x80000000, ones - 31} {
			for own := range uint64(n) {
				s := Reserve(at, n)
				for beside := uint64(1); beside <= 16; beside++ {
					s = s.Broken(at-beside, 1).Broken(at-beside, beside).Broken(at+uint64(n)+beside-1, 1).Broken(at+own, 0)
					if !s.Holds(at, n) {
						t.Fatalf("of %d bytes at %#x: not held behind %d beside it", n, at, beside)
					}
				}
				if s = s.Broken(at+own, 1); s.Holds(at, n) || s.Len != 0 {
					t.Fatalf("of %d bytes at %#x: %+v is left behind byte %d of it", n, at, s, own)
				}
				if s = s.Broken(0, 8); s.Holds(at, n) {
					t.Fatalf("of %d bytes at %#x: held again", n, at)
				}
			}
		}
	}
}
