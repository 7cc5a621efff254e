package ram

import (
	"bytes"
	"math"
	"math/big"
	"testing"

	"vireo/api"
)

const (
	base   = api.RAMBase
	second = base + api.PageSize // where the second page begins
)

// made: a memory of so many bytes, of a size that may be.
func made(t *testing.T, size uint64) *RAM {
	t.Helper()
	m, e := New(size)
	if e != api.OK || m == nil {
		t.Fatalf("New(%d): %v, %d", size, m, e)
	}
	return m
}

// filled: a memory in which no two bytes beside one another are alike, and none is 0.
func filled(t *testing.T, size uint64) *RAM {
	t.Helper()
	m := made(t, size)
	if !m.Write(base, pattern(int(size))) {
		t.Fatalf("Write of %d bytes", size)
	}
	return m
}

func pattern(n int) []byte {
	out := make([]byte, n)
	for i := range out {
		out[i] = byte(i%251) + 1
	}
	return out
}

// all: a memory's bytes, one by one, so that nothing but Load is leaned on.
func all(t *testing.T, m *RAM) []byte {
	t.Helper()
	out := make([]byte, m.Size())
	for i := range out {
		w, ok := m.Load(base+uint64(i), 1)
		if !ok || w > 0xff {
			t.Fatalf("Load(%#x, 1): %#x, %v", base+uint64(i), w, ok)
		}
		out[i] = byte(w)
	}
	return out
}

// P2.1

func TestNew(t *testing.T) {
	for _, c := range []struct {
		size uint64
		want api.Errno
	}{
		{0, api.ErrSize},
		{1, api.ErrSize},
		{2048, api.ErrSize},
		{4095, api.ErrSize},
		{4096, api.OK},
		{4097, api.ErrSize},
		{6144, api.ErrSize},
		{8191, api.ErrSize},
		{8192, api.OK},
		{12288, api.OK}, // no power of 2
		{1 << 20, api.OK},
		{api.MaxRAM - 4096, api.OK},
		{api.MaxRAM - 1, api.ErrSize},
		{api.MaxRAM, api.OK},
		{api.MaxRAM + 1, api.ErrSize},
		{api.MaxRAM + 4096, api.ErrSize},
		{1 << 32, api.ErrSize},
		{1<<32 + 4096, api.ErrSize}, // 4096, if the high bits were lost
		{1 << 63, api.ErrSize},
		{math.MaxUint64 - 4095, api.ErrSize},
		{math.MaxUint64, api.ErrSize},
	} {
		m, e := New(c.size)
		if e != c.want || (m != nil) != (c.want == api.OK) {
			t.Errorf("New(%d): %v, %d", c.size, m, e)
		}
		if m != nil && m.Size() != c.size {
			t.Errorf("Size of %d: %d", c.size, m.Size())
		}
	}
}

func TestNewIsBlank(t *testing.T) {
	for _, size := range []uint64{4096, 12288, api.MaxRAM} {
		m := made(t, size)
		got, ok := m.Read(base, size)
		if !ok || uint64(len(got)) != size || !bytes.Equal(got, make([]byte, size)) {
			t.Errorf("New(%d): not all 0", size)
		}
		if w, ok := m.Load(base+size-8, 8); !ok || w != 0 {
			t.Errorf("New(%d): the last word is %#x, %v", size, w, ok)
		}
	}
}

func TestTwoMemoriesAreApart(t *testing.T) {
	a, b := made(t, 4096), made(t, 4096)
	a.Store(base, 8, math.MaxUint64)
	if w, _ := b.Load(base, 8); w != 0 {
		t.Errorf("a Store in one memory is seen in another: %#x", w)
	}
}

func TestHas(t *testing.T) {
	for _, c := range []struct {
		size, at, n uint64
		want        bool
	}{
		{4096, base, 1, true},
		{4096, base, 4096, true},
		{4096, base, 4097, false},
		{4096, base - 1, 1, false},
		{4096, base - 1, 0, false},
		{4096, base - 1, 2, false},
		{4096, base, 0, true},
		{4096, base + 4095, 1, true},
		{4096, base + 4095, 2, false},
		{4096, base + 4096, 0, true}, // nothing, at the end
		{4096, base + 4096, 1, false},
		{4096, base + 4097, 0, false},
		{8192, base + 4096, 4096, true},
		{8192, base + 4095, 2, true},
		{4096, 0, 0, false},
		{4096, 0, 1, false},
		{4096, 0, base + 4096, false},
		{4096, base, math.MaxUint64, false},
		{4096, base + 1, math.MaxUint64, false}, // the end, past 2^64, would be base
		{4096, base + 8, math.MaxUint64 - 7, false},
		{4096, math.MaxUint64, 1, false},
		{4096, math.MaxUint64, 0, false},
		{4096, math.MaxUint64, base + 2, false},
		{api.MaxRAM, base + api.MaxRAM - 1, 1, true},
		{api.MaxRAM, base, api.MaxRAM, true},
		{api.MaxRAM, base + 1, api.MaxRAM, false},
		{4096, 1<<32 + base, 1, false}, // the high bits of an address count
	} {
		if got := made(t, c.size).Has(c.at, c.n); got != c.want {
			t.Errorf("Has(%#x, %#x) of %d bytes: %v", c.at, c.n, c.size, got)
		}
	}
}

// someWords: addresses and lengths about every edge.
func someWords() []uint64 {
	out := []uint64{1<<63 - 1, 1 << 63, 1<<32 + base, math.MaxUint64 - base}
	for _, about := range []uint64{0, 8, 4096, base, base + 4096, base + 8192, base + 12288, base + api.MaxRAM} {
		for off := range uint64(5) {
			out = append(out, about+off-2) // some of these come round to the greatest words
		}
	}
	return out
}

func TestHasWithoutBound(t *testing.T) {
	great := func(w uint64) *big.Int { return new(big.Int).SetUint64(w) }
	end := func(at, n uint64) *big.Int { return new(big.Int).Add(great(at), great(n)) }
	for _, size := range []uint64{4096, 8192, api.MaxRAM} {
		m := made(t, size)
		for _, at := range someWords() {
			for _, n := range someWords() {
				want := at >= base && end(at, n).Cmp(end(base, size)) <= 0
				if got := m.Has(at, n); got != want {
					t.Errorf("Has(%#x, %#x) of %d bytes: %v", at, n, size, got)
				}
			}
		}
	}
}

// P2.2

func TestLoad(t *testing.T) {
	m := filled(t, 8192)
	for _, c := range []struct {
		at   uint64
		n    int
		want uint64
		ok   bool
	}{
		{base, 1, 0x01, true},
		{base, 2, 0x0201, true},
		{base, 4, 0x04030201, true},
		{base, 8, 0x0807060504030201, true},
		{base + 1, 8, 0x0908070605040302, true}, // an address needn't be divided
		{base + 3, 2, 0x0504, true},
		{second - 1, 1, 0x50, true},
		{second - 1, 2, 0x5150, true},
		{second - 2, 4, 0x5251504f, true},
		{second - 4, 8, 0x54535251504f4e4d, true},
		{second - 7, 8, 0x51504f4e4d4c4b4a, true},
		{second, 8, 0x5857565554535251, true},
		{base + 8191, 1, 0xa0, true},
		{base + 8184, 8, 0xa09f9e9d9c9b9a99, true},
		{base + 8185, 8, 0, false},
		{base + 8191, 2, 0, false},
		{base + 8192, 1, 0, false},
		{base - 1, 1, 0, false},
		{base - 1, 2, 0, false},
		{0, 8, 0, false},
		{math.MaxUint64, 1, 0, false},
		{math.MaxUint64 - 7, 8, 0, false},
		{math.MaxUint64 - 3, 8, 0, false},
		{1<<32 + base, 1, 0, false},
	} {
		if got, ok := m.Load(c.at, c.n); got != c.want || ok != c.ok {
			t.Errorf("Load(%#x, %d): %#x, %v", c.at, c.n, got, ok)
		}
	}
	if w, ok := filled(t, 4096).Load(0x80000ffe, 4); w != 0 || ok {
		t.Errorf("Load(0x80000ffe, 4) of 4096 bytes: %#x, %v", w, ok)
	}
}

// wrongWidths: numbers of bytes that no word is stored in.
func wrongWidths() []int {
	out := []int{16, 24, 32, 64, 256, 257, 4096, 4097, 1 << 32, 1<<32 + 8, math.MaxInt, math.MaxInt - 7}
	for n := -16; n < 16; n++ {
		if n != 1 && n != 2 && n != 4 && n != 8 {
			out = append(out, n)
		}
	}
	return append(out, math.MinInt, math.MinInt+1, math.MinInt+8, -1<<32+4)
}

func TestWrongWidths(t *testing.T) {
	m := filled(t, 8192)
	for _, n := range wrongWidths() {
		for _, at := range []uint64{base, base + 64, second - 2, second} {
			if w, ok := m.Load(at, n); w != 0 || ok {
				t.Errorf("Load(%#x, %d): %#x, %v", at, n, w, ok)
			}
			if m.Store(at, n, 0) {
				t.Errorf("Store(%#x, %d): true", at, n)
			}
		}
	}
	if !bytes.Equal(all(t, m), pattern(8192)) {
		t.Errorf("a Store that was refused has put something")
	}
}

func TestStore(t *testing.T) {
	const w = 0xf8e7d6c5b4a39281
	whole := []byte{0x81, 0x92, 0xa3, 0xb4, 0xc5, 0xd6, 0xe7, 0xf8}
	for _, n := range []int{1, 2, 4, 8} {
		for _, place := range []uint64{0, 1, 3, 100, 4088, 4089, 4092, 4094, 4095, 4096, 4097, 8192 - uint64(n)} {
			m, want := filled(t, 8192), pattern(8192)
			copy(want[place:], whole[:n])
			if !m.Store(base+place, n, w) {
				t.Errorf("Store(%#x, %d): false", base+place, n)
			}
			if !bytes.Equal(all(t, m), want) {
				t.Errorf("Store(%#x, %d) puts something else", base+place, n)
			}
			if got, ok := m.Load(base+place, n); !ok || got != w&(1<<(8*n)-1) {
				t.Errorf("Load behind Store(%#x, %d): %#x, %v", base+place, n, got, ok)
			}
		}
	}
}

func TestStoreBeyond(t *testing.T) {
	m := filled(t, 8192)
	for _, n := range []int{1, 2, 4, 8} {
		for _, at := range []uint64{
			base - 1, base - 8, base + 8193 - uint64(n), base + 8192, base + 8193, 0, 1, 4096,
			math.MaxUint64, math.MaxUint64 - 1, math.MaxUint64 - 7, 1<<32 + base, base << 1, base + api.MaxRAM,
		} {
			if m.Store(at, n, math.MaxUint64) {
				t.Errorf("Store(%#x, %d): true", at, n)
			}
			if w, ok := m.Load(at, n); w != 0 || ok {
				t.Errorf("Load(%#x, %d): %#x, %v", at, n, w, ok)
			}
		}
	}
	if !bytes.Equal(all(t, m), pattern(8192)) {
		t.Errorf("a Store that was refused has put something")
	}
}

func TestRead(t *testing.T) {
	m, whole := filled(t, 12288), pattern(12288)
	for _, c := range []struct{ from, n uint64 }{
		{0, 0}, {0, 1}, {0, 4096}, {0, 4097}, {0, 12288}, {1, 12287}, {5, 7},
		{4095, 1}, {4095, 2}, {4096, 0}, {4096, 1}, {4096, 4096}, {4095, 4098}, {4000, 8000},
		{12287, 1}, {12288, 0}, {12287, 0},
	} {
		got, ok := m.Read(base+c.from, c.n)
		if !ok || !bytes.Equal(got, whole[c.from:c.from+c.n]) {
			t.Errorf("Read(%#x, %d): %x, %v", base+c.from, c.n, got, ok)
		}
	}
	for _, c := range []struct{ at, n uint64 }{
		{base - 1, 0}, {base - 1, 1}, {base - 1, 4}, {0, 0}, {0, 1}, {0, base + 1},
		{base, 12289}, {base + 1, 12288}, {base + 12287, 2}, {base + 12288, 1}, {base + 12289, 0},
		{base, math.MaxUint64}, {base + 1, math.MaxUint64}, {base + 2, math.MaxUint64 - 1}, {base + 12288, math.MaxUint64},
		{math.MaxUint64, 0}, {math.MaxUint64, 1}, {math.MaxUint64, math.MaxUint64}, {1 << 63, 1 << 63}, {base, 1 << 63}, {1<<32 + base, 4},
	} {
		if got, ok := m.Read(c.at, c.n); len(got) != 0 || ok {
			t.Errorf("Read(%#x, %#x): %d bytes, %v", c.at, c.n, len(got), ok)
		}
	}
}

func TestReadWhatWasNeverWritten(t *testing.T) {
	m := made(t, 16384)
	m.Write(second, []byte{7})
	m.Write(second+8191, []byte{9})
	want := make([]byte, 16384)
	want[4096], want[12287] = 7, 9
	if got, ok := m.Read(base, 16384); !ok || !bytes.Equal(got, want) {
		t.Errorf("Read: bytes beside those that were written aren't 0")
	}
	if w, ok := m.Load(second+4093, 4); !ok || w != 0 {
		t.Errorf("Load across a page without bytes: %#x, %v", w, ok)
	}
}

func TestWrite(t *testing.T) {
	for _, c := range []struct{ from, n int }{
		{0, 0}, {0, 1}, {0, 4096}, {0, 4097}, {0, 12288}, {1, 12287}, {5, 7},
		{4095, 1}, {4095, 2}, {4096, 0}, {4096, 1}, {4096, 4096}, {4095, 4098}, {4000, 8000},
		{12287, 1}, {12288, 0},
	} {
		data := bytes.Repeat([]byte{0xfc, 0xfd, 0xfe, 0xff}, 3072)[:c.n]
		m, want := filled(t, 12288), pattern(12288)
		copy(want[c.from:], data)
		if !m.Write(base+uint64(c.from), data) {
			t.Errorf("Write of %d bytes from %d on: false", c.n, c.from)
		}
		if !bytes.Equal(all(t, m), want) {
			t.Errorf("Write of %d bytes from %d on puts something else", c.n, c.from)
		}
	}
}

func TestWriteBeyond(t *testing.T) {
	m := filled(t, 8192)
	for _, c := range []struct {
		at uint64
		n  int
	}{
		{base - 1, 0}, {base - 1, 1}, {base - 1, 2}, {base - 1, 8192}, {base - 1, 8194}, {0, 0}, {0, 16},
		{base, 8193}, {base + 1, 8192}, {base + 4095, 4098}, {base + 8191, 2}, {base + 8192, 1}, {base + 8193, 0}, {base + 8193, 1},
		{math.MaxUint64, 0}, {math.MaxUint64, 1}, {math.MaxUint64, 2}, {math.MaxUint64 - 7, 8}, {math.MaxUint64 - 7, 16}, {1<<32 + base, 1},
	} {
		if m.Write(c.at, make([]byte, c.n)) {
			t.Errorf("Write(%#x) of %d bytes: true", c.at, c.n)
		}
	}
	if m.Write(base+8193, nil) || !m.Write(base+8192, nil) || !m.Write(base, nil) {
		t.Errorf("Write of nil")
	}
	if !bytes.Equal(all(t, m), pattern(8192)) {
		t.Errorf("a Write that was refused has put something")
	}
}

func TestGreatestMemory(t *testing.T) {
	m := made(t, api.MaxRAM)
	last := base + api.MaxRAM - 8
	if !m.Store(last, 8, 0x1122334455667788) || m.Store(last+1, 8, 1) {
		t.Errorf("Store at the end")
	}
	if got, ok := m.Read(last+6, 2); !ok || !bytes.Equal(got, []byte{0x22, 0x11}) {
		t.Errorf("Read at the end: %x, %v", got, ok)
	}
	if w, ok := m.Load(base, 8); !ok || w != 0 {
		t.Errorf("Load at the beginning: %#x, %v", w, ok)
	}
	// Addresses half the memory apart have most of their bits in common.
	if w, ok := m.Load(last-api.MaxRAM/2, 8); !ok || w != 0 {
		t.Errorf("Load in the middle: %#x, %v", w, ok)
	}
}
