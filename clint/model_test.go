package clint

import (
	"math"
	"math/big"
	"math/rand"
	"testing"
)

const (
	ones = math.MaxUint64
	top  = 1 << 63
	low  = 0xffffffff
	end  = 65536 // behind the last byte
)

// full is a state none of whose bytes is like another, so that a byte of the wrong place is seen.
var full = Clint{Soft: true, Cmp: 0x1817161514131211, Now: 0x2827262524232221}

// beyond: numbers of bytes that no access has, some of which would be 4 or 8 if they were cut.
var beyond = []int{
	math.MinInt, math.MinInt + 4, math.MinInt + 8, math.MinInt32, -16, -8, -5, -4, -2, -1, 0, 1, 2, 3, 5, 6, 7, 9, 12, 15, 16, 32, 64, 260, 264,
	65536, 1<<16 + 4, 1<<32 + 4, 1<<32 + 8, math.MaxInt32, math.MaxInt - 3, math.MaxInt - 7, math.MaxInt,
}

// The model holds a state as bytes at places, and takes words' bytes by quotients and rests.

type bytesAt map[uint64]byte

func (m bytesAt) lay(at, w uint64) {
	for i := range uint64(8) {
		m[at+i] = byte(w % 256)
		w /= 256
	}
}

func (m bytesAt) word(at uint64, n int) uint64 {
	sum := uint64(0)
	for i := n - 1; i >= 0; i-- {
		sum = sum*256 + uint64(m[at+uint64(i)])
	}
	return sum
}

func spread(c Clint) bytesAt {
	m := bytesAt{}
	if c.Soft {
		m[0] = 1
	}
	m.lay(0x4000, c.Cmp)
	m.lay(0xbff8, c.Now)
	return m
}

// modelMay: as P11.2 says, with numbers as great as one likes.
func modelMay(at uint64, n int) bool {
	if n != 4 && n != 8 {
		return false
	}
	behind := new(big.Int).SetUint64(at)
	behind.Add(behind, big.NewInt(int64(n)))
	return at%uint64(n) == 0 && behind.Cmp(big.NewInt(end)) <= 0
}

func modelLoad(c Clint, at uint64, n int) (uint64, bool) {
	if !modelMay(at, n) {
		return 0, false
	}
	return spread(c).word(at, n), true
}

func modelStore(c Clint, at uint64, n int, w uint64) (Clint, bool) {
	if !modelMay(at, n) {
		return c, false
	}
	m := spread(c)
	for i := range uint64(n) {
		m[at+i] = byte(w % 256)
		w /= 256
	}
	return Clint{Soft: m[0]%2 == 1, Cmp: m.word(0x4000, 8), Now: m.word(0xbff8, 8)}, true
}

// loads: Load at a state tells this, and leaves the state.
func loads(t *testing.T, before Clint, at uint64, n int, want uint64, may bool) {
	t.Helper()
	c := before
	if got, ok := c.Load(at, n); got != want || ok != may || c != before {
		t.Fatalf("%+v: Load(%#x, %d): %#x, %v, not %#x, %v; then %+v", before, at, n, got, ok, want, may, c)
	}
}

// stores: Store at a state tells this, and makes that of the state.
func stores(t *testing.T, before Clint, at uint64, n int, w uint64, want Clint, may bool) {
	t.Helper()
	c := before
	if ok := c.Store(at, n, w); ok != may || c != want {
		t.Fatalf("%+v: Store(%#x, %d, %#x): %v, not %v; then %+v, not %+v", before, at, n, w, ok, may, c, want)
	}
}

func asModel(t *testing.T, c Clint, at uint64, n int, w uint64) {
	t.Helper()
	got, ok := modelLoad(c, at, n)
	loads(t, c, at, n, got, ok)
	then, ok := modelStore(c, at, n, w)
	stores(t, c, at, n, w, then, ok)
}

func someState(chance *rand.Rand) Clint {
	return Clint{Soft: chance.Intn(2) == 0, Cmp: chance.Uint64() >> chance.Intn(64), Now: chance.Uint64() >> chance.Intn(64)}
}

// somePlace: mostly about the registers and the end, and anywhere.
func somePlace(chance *rand.Rand) uint64 {
	near := []uint64{0, 0x4000, 0xbff8, end - 16, 0x8000, ones - 15}
	switch chance.Intn(8) {
	case 0:
		return chance.Uint64() >> chance.Intn(64)
	case 1:
		return uint64(chance.Intn(end))
	}
	return near[chance.Intn(len(near))] + uint64(chance.Intn(16))
}

func someBytes(chance *rand.Rand) int {
	switch chance.Intn(16) {
	case 0:
		return beyond[chance.Intn(len(beyond))]
	case 1:
		return int(chance.Uint64() >> chance.Intn(64))
	}
	return 4 + 4*chance.Intn(2)
}
