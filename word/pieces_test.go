package word

import (
	"math"
	"math/big"
	"testing"
)

// P1.4: Within and Overlap, held against numbers as great as one likes.

func TestWithin(t *testing.T) {
	for _, c := range []struct {
		at, n, base, size uint64
		want              bool
	}{
		{4, 4, 4, 4, true},
		{4, 3, 4, 4, true},
		{5, 3, 4, 4, true},
		{5, 4, 4, 4, false},
		{3, 4, 4, 4, false},
		{3, 0, 4, 4, false},
		{4, 5, 4, 4, false},
		{8, 0, 4, 4, true}, // nothing, at the end
		{8, 1, 4, 4, false},
		{9, 0, 4, 4, false},
		{4, 0, 4, 0, true},
		{0, 0, 0, 0, true},
		{0xfffffffffffffffe, 4, 0, math.MaxUint64, false},
		{math.MaxUint64, 2, 0, math.MaxUint64, false},
		{math.MaxUint64, 0, 0, math.MaxUint64, true},
		{0, math.MaxUint64, 0, math.MaxUint64, true},
		{1, math.MaxUint64, 0, math.MaxUint64, false},
		{1, math.MaxUint64, 1, math.MaxUint64, true},     // both ends beyond 2^64
		{math.MaxUint64, 16, math.MaxUint64, 16, true},   // both ends beyond 2^64
		{math.MaxUint64, 17, math.MaxUint64, 16, false},  // both ends beyond 2^64
		{0, 1, math.MaxUint64, 16, false},                // the base's end isn't 15
		{16, 1, math.MaxUint64 - 15, 32, false},          // nor is it 16
		{math.MaxUint64, 1, math.MaxUint64 - 1, 2, true}, // an end that is 2^64
	} {
		if got := Within(c.at, c.n, c.base, c.size); got != c.want {
			t.Errorf("Within(%#x, %#x, %#x, %#x): %v", c.at, c.n, c.base, c.size, got)
		}
	}
}

func TestOverlap(t *testing.T) {
	for _, c := range []struct {
		a, n, b, m uint64
		want       bool
	}{
		{0, 4, 3, 1, true},
		{0, 4, 4, 1, false},
		{4, 4, 0, 4, false},
		{4, 4, 0, 5, true},
		{4, 4, 4, 4, true},
		{0, 16, 4, 2, true},
		{4, 2, 0, 16, true},
		{0, 16, 4, 0, false}, // nothing has nothing in common
		{4, 0, 0, 16, false},
		{4, 0, 4, 0, false},
		{4, 0, 4, 1, false},
		{4, 1, 4, 0, false},
		{math.MaxUint64, 1, math.MaxUint64, 1, true},
		{math.MaxUint64 - 1, 1, math.MaxUint64, 1, false},
		{math.MaxUint64, 16, 0, 8, false}, // an end beyond 2^64 doesn't come round to 0
		{0, 8, math.MaxUint64, 16, false},
		{math.MaxUint64 - 3, 16, math.MaxUint64, 2, true},
		{1, math.MaxUint64, math.MaxUint64, 1, true},
		{0, math.MaxUint64, math.MaxUint64, 1, false},
		{0, math.MaxUint64, 1, math.MaxUint64, true},
	} {
		if got := Overlap(c.a, c.n, c.b, c.m); got != c.want {
			t.Errorf("Overlap(%#x, %#x, %#x, %#x): %v", c.a, c.n, c.b, c.m, got)
		}
	}
}

func TestPiecesWithoutBound(t *testing.T) {
	edges := []uint64{0, 1, 2, 3, 4095, 4096, 1<<32 - 1, 1 << 32, 1<<63 - 1, 1 << 63, 1<<63 + 1, math.MaxUint64 - 2, math.MaxUint64 - 1, math.MaxUint64}
	great := func(w uint64) *big.Int { return new(big.Int).SetUint64(w) }
	end := func(at, n uint64) *big.Int { return new(big.Int).Add(great(at), great(n)) }
	for _, a := range edges {
		for _, n := range edges {
			for _, b := range edges {
				for _, m := range edges {
					aEnd, bEnd := end(a, n), end(b, m)
					within := great(b).Cmp(great(a)) <= 0 && aEnd.Cmp(bEnd) <= 0
					if got := Within(a, n, b, m); got != within {
						t.Errorf("Within(%#x, %#x, %#x, %#x): %v", a, n, b, m, got)
					}
					from, to := great(max(a, b)), aEnd
					if bEnd.Cmp(to) < 0 {
						to = bEnd
					}
					if got := Overlap(a, n, b, m); got != (from.Cmp(to) < 0) {
						t.Errorf("Overlap(%#x, %#x, %#x, %#x): %v", a, n, b, m, got)
					}
				}
			}
		}
	}
}
