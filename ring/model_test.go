package ring

import (
	"bytes"
	"math"
	"math/big"
	"math/rand"
	"slices"
	"testing"

	"vireo/api"
	"vireo/ram"
)

const (
	base  = 0x80000000
	ones  = math.MaxUint64
	page  = 4096
	small = 4 * page
)

// sizes: of all queues that may be.
var sizes = []int{1, 2, 4, 8, 16, 32, 64, 128, 256}

func made(t *testing.T, size uint64) *ram.RAM {
	t.Helper()
	m, e := ram.New(size)
	if e != api.OK || m == nil {
		t.Fatalf("New(%d): %d", size, e)
	}
	return m
}

// pattern: bytes of which no two words of 2 bytes at even places are alike, nor are a word's own two.
func pattern(n uint64) []byte {
	out := make([]byte, n)
	for i := range out {
		if i%2 == 0 {
			out[i] = byte(i/2*7 + 3)
		} else {
			out[i] = byte(i/512*2+1) ^ out[i-1]
		}
	}
	return out
}

// filled: a memory with a pattern in it.
func filled(t *testing.T, size uint64) *ram.RAM {
	t.Helper()
	m := made(t, size)
	if !m.Write(base, pattern(size)) {
		t.Fatalf("Write of %d bytes", size)
	}
	return m
}

func TestPattern(t *testing.T) {
	seen := map[[2]byte]int{}
	row := pattern(2 * small)
	for i := 0; i < len(row); i += 2 {
		word := [2]byte(row[i:])
		if at, is := seen[word]; is || word[0] == word[1] {
			t.Fatalf("%x at %d and %d", word, at, i)
		}
		seen[word] = i
	}
}

// all: what stands in a memory. It is asked of a copy, so that no log is told of it.
func all(t *testing.T, m *ram.RAM) []byte {
	t.Helper()
	row, ok := m.Copy().Read(base, m.Size())
	if !ok {
		t.Fatalf("Read of all %d bytes", m.Size())
	}
	return row
}

// holds: just these bytes stand in a memory.
func holds(t *testing.T, m *ram.RAM, want []byte) {
	t.Helper()
	got := all(t, m)
	if bytes.Equal(got, want) {
		return
	}
	for i := range got {
		if got[i] != want[i] {
			t.Fatalf("at %#x stands %#x, not %#x", base+i, got[i], want[i])
		}
	}
}

// watched: a memory tells just these pieces while something is done.
func watched(t *testing.T, m *ram.RAM, reads, writes []api.Span, do func()) {
	t.Helper()
	log := &ram.Log{}
	m.Watch(log)
	do()
	m.Watch(nil)
	if !slices.Equal(log.Reads, reads) || !slices.Equal(log.Writes, writes) {
		t.Fatalf("read %+v, written %+v, not %+v, %+v", log.Reads, log.Writes, reads, writes)
	}
}

// one: a list of one piece.
func one(at, n uint64) []api.Span { return []api.Span{{At: at, Len: n}} }

// layout: three pieces one behind the other, from a place on that is divided by 16.
func layout(size int, at uint64) api.Layout {
	avail := at + 16*uint64(size)
	used := avail + 6 + 2*uint64(size)
	return api.Layout{Size: size, Desc: at, Avail: avail, Used: (used + 3) / 4 * 4}
}

// ending: three pieces each of which ends as near to a memory's end as it may.
func ending(size int, memory uint64) api.Layout {
	end, n := base+memory, uint64(size)
	return api.Layout{Size: size, Desc: end - 16*n, Avail: end - 6 - 2*n, Used: (end - 6 - 8*n) / 4 * 4}
}

// places: layouts of all sizes that may be in a memory of 4 pages, at its beginning, in its midst, across pages, at its end, and with pieces that lie upon one another.
func places() []api.Layout {
	var out []api.Layout
	for _, size := range sizes {
		out = append(out,
			layout(size, base),
			layout(size, base+page-16),
			layout(size, base+page+16*37),
			ending(size, small),
			api.Layout{Size: size, Desc: base + 32, Avail: base + 2, Used: base + 3*page - 4},
			api.Layout{Size: size, Desc: base + 16, Avail: base + 3*page - 2, Used: base + 4},
			api.Layout{Size: size, Desc: base + page, Avail: base + page, Used: base + page},
		)
	}
	return out
}

// The model reckons with numbers as great as one likes.

func great(n uint64) *big.Int { return new(big.Int).SetUint64(n) }

// within: do n bytes at at lie in a memory?
func within(memory, at uint64, n *big.Int) bool {
	first, last := great(base), great(base+memory)
	return great(at).Cmp(first) >= 0 && new(big.Int).Add(great(at), n).Cmp(last) <= 0
}

// checked: what Check must tell.
func checked(memory uint64, l api.Layout) api.Errno {
	if !slices.Contains(sizes, l.Size) || l.Desc%16 > 0 || l.Avail%2 > 0 || l.Used%4 > 0 {
		return api.ErrLayout
	}
	n := int64(l.Size)
	if within(memory, l.Desc, big.NewInt(16*n)) && within(memory, l.Avail, big.NewInt(6+2*n)) && within(memory, l.Used, big.NewInt(6+8*n)) {
		return api.OK
	}
	return api.ErrPlace
}

// strange: numbers that are no queue's size and no descriptor's number, some of which would be if they were cut.
var strange = []int{
	math.MinInt, math.MinInt + 1, math.MinInt + 4, math.MinInt32, -65536, -256, -255, -4, -2, -1,
	257, 512, 65536, 65537, math.MaxInt32, 1 << 32, 1<<32 + 1, 1<<32 + 4, 1 << 60, 1 << 61, 1 << 62, math.MaxInt - 1, math.MaxInt,
}

// someSize: mostly one that may be.
func someSize(chance *rand.Rand) int {
	switch chance.Intn(8) {
	case 0:
		return strange[chance.Intn(len(strange))]
	case 1:
		return int(chance.Uint64()) >> chance.Intn(64)
	}
	return sizes[chance.Intn(len(sizes))]
}

// somePlace: mostly near the memory's beginning, within it, near its end, or near the greatest address; mostly divided by a number.
func somePlace(chance *rand.Rand, memory, by uint64) uint64 {
	at := uint64(base)
	switch chance.Intn(8) {
	case 0:
		at += chance.Uint64()%256 - 128
	case 1:
		at += memory - chance.Uint64()%5000
	case 2:
		at = ones - chance.Uint64()%5000
	case 3:
		at = chance.Uint64() >> chance.Intn(64)
	default:
		at += chance.Uint64() % memory
	}
	if chance.Intn(8) > 0 {
		at -= at % by
	}
	return at
}

func someLayout(chance *rand.Rand, memory uint64) api.Layout {
	return api.Layout{Size: someSize(chance), Desc: somePlace(chance, memory, 16), Avail: somePlace(chance, memory, 2), Used: somePlace(chance, memory, 4)}
}
