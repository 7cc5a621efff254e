package word

import (
	"math"
	"slices"
	"testing"
)

// Numbers of bits and places: ordinary ones, the edges, and ones far beyond them.
func someInts() []int {
	list := []int{math.MinInt, math.MinInt + 1, math.MinInt32, -65, -64, -63, -2, -1}
	for n := range 131 {
		list = append(list, n)
	}
	return append(list, 4095, 4096, 4097, 1<<32, 1<<32+1, 1<<32+63, math.MaxInt-1, math.MaxInt)
}

func someWords() []uint64 {
	list := []uint64{0x0123456789abcdef, 0xfedcba9876543210, 0xaaaaaaaaaaaaaaaa, 0x5555555555555555, 0x8000000180000001}
	for n := range 64 {
		list = append(list, 1<<n, 1<<n-1, ^uint64(0)<<n)
	}
	return append(list, math.MaxUint64)
}

// bitAt and ofBits are the model: a word as a row of bits, without any of the package's own calls.
func bitAt(w uint64, n int) bool {
	for range n {
		w /= 2
	}
	return w%2 == 1
}

func ofBits(is func(n int) bool) uint64 {
	w := uint64(0)
	for n := 63; n >= 0; n-- {
		w *= 2
		if is(n) {
			w++
		}
	}
	return w
}

// P1.1

func TestMask(t *testing.T) {
	for _, c := range []struct {
		n    int
		want uint64
	}{
		{math.MinInt, 0}, {-1, 0}, {0, 0}, {1, 1}, {2, 3}, {8, 0xff}, {32, 0xffffffff},
		{63, 0x7fffffffffffffff}, {64, math.MaxUint64}, {65, math.MaxUint64}, {math.MaxInt, math.MaxUint64},
	} {
		if got := Mask(c.n); got != c.want {
			t.Errorf("Mask(%d): %#x, not %#x", c.n, got, c.want)
		}
	}
	for _, n := range someInts() {
		if got, want := Mask(n), ofBits(func(i int) bool { return i < n }); got != want {
			t.Errorf("Mask(%d): %#x, not %#x", n, got, want)
		}
	}
}

func TestGet(t *testing.T) {
	for _, c := range []struct {
		w     uint64
		at, n int
		want  uint64
	}{
		{0x0123456789abcdef, 0, 4, 0xf},
		{0x0123456789abcdef, 4, 8, 0xde},
		{0x0123456789abcdef, 32, 32, 0x01234567},
		{0x0123456789abcdef, 0, 64, 0x0123456789abcdef},
		{0x0123456789abcdef, 0, 65, 0x0123456789abcdef},
		{0x8000000000000000, 63, 1, 1},
		{0x8000000000000000, 63, 64, 1},
		{0xf000000000000000, 62, 8, 3},
		{math.MaxUint64, 5, 0, 0},
		{math.MaxUint64, 5, -1, 0},
		{math.MaxUint64, -1, 8, 0},
		{math.MaxUint64, 64, 8, 0},
		{math.MaxUint64, math.MinInt, math.MaxInt, 0},
		{math.MaxUint64, math.MaxInt, math.MaxInt, 0},
	} {
		if got := Get(c.w, c.at, c.n); got != c.want {
			t.Errorf("Get(%#x, %d, %d): %#x, not %#x", c.w, c.at, c.n, got, c.want)
		}
	}
}

func TestPut(t *testing.T) {
	for _, c := range []struct {
		w     uint64
		at, n int
		v     uint64
		want  uint64
	}{
		{0, 4, 8, 0xab, 0xab0},
		{math.MaxUint64, 4, 8, 0, 0xfffffffffffff00f},
		{0, 4, 8, 0xfff, 0xff0},
		{0x1234, 0, 64, 0xfedc, 0xfedc},
		{0x1234, 0, math.MaxInt, 0xfedc, 0xfedc},
		{0, 60, 8, 0xff, 0xf000000000000000},
		{1, 63, 1, 1, 0x8000000000000001},
		{0x1234, 4, 0, 0xff, 0x1234},
		{0x1234, 4, -3, 0xff, 0x1234},
		{0x1234, -1, 8, 0xff, 0x1234},
		{0x1234, 64, 8, 0xff, 0x1234},
		{0x1234, math.MinInt, 64, 0xff, 0x1234},
		{0x1234, math.MaxInt, 64, 0xff, 0x1234},
	} {
		if got := Put(c.w, c.at, c.n, c.v); got != c.want {
			t.Errorf("Put(%#x, %d, %d, %#x): %#x, not %#x", c.w, c.at, c.n, c.v, got, c.want)
		}
	}
}

// Each bit of what Get and Put answer is told from the bits of what they were given.
func TestGetAndPutBitByBit(t *testing.T) {
	words := []uint64{0, 0x0123456789abcdef, 0xaaaaaaaaaaaaaaaa, math.MaxUint64}
	ints := []int{math.MinInt, -64, -1, 0, 1, 2, 7, 31, 32, 33, 62, 63, 64, 65, math.MaxInt - 63, math.MaxInt}
	for _, w := range words {
		v := ^w*3 + 1
		for _, at := range ints {
			place := at >= 0 && at <= 63
			for _, n := range ints {
				get := ofBits(func(i int) bool { return place && i < n && at+i <= 63 && bitAt(w, at+i) })
				if got := Get(w, at, n); got != get {
					t.Errorf("Get(%#x, %d, %d): %#x, not %#x", w, at, n, got, get)
				}
				put := ofBits(func(i int) bool {
					if place && i >= at && i-at < n {
						return bitAt(v, i-at)
					}
					return bitAt(w, i)
				})
				if got := Put(w, at, n, v); got != put {
					t.Errorf("Put(%#x, %d, %d, %#x): %#x, not %#x", w, at, n, v, got, put)
				}
			}
		}
	}
}

func TestBit(t *testing.T) {
	for _, w := range someWords() {
		for _, n := range someInts() {
			want := n >= 0 && n <= 63 && bitAt(w, n)
			if got := Bit(w, n); got != want {
				t.Errorf("Bit(%#x, %d): %v", w, n, got)
			}
		}
	}
}

func TestBits(t *testing.T) {
	for _, c := range []struct {
		list []int
		want uint64
	}{
		{nil, 0},
		{[]int{}, 0},
		{[]int{0}, 1},
		{[]int{63}, 0x8000000000000000},
		{[]int{4, 0}, 17},
		{[]int{3, 3, 3}, 8},
		{[]int{-1, 64, 65, math.MinInt, math.MaxInt}, 0},
		{[]int{-1, 5, 64, 1, 128}, 34},
	} {
		if got := Bits(c.list...); got != c.want {
			t.Errorf("Bits(%v): %#x, not %#x", c.list, got, c.want)
		}
	}
	if got := Bits(someInts()...); got != math.MaxUint64 {
		t.Errorf("Bits of all: %#x", got)
	}
}

func TestLowest(t *testing.T) {
	if got := Lowest(0); got != -1 {
		t.Errorf("Lowest(0): %d", got)
	}
	for n := range 64 {
		for _, w := range []uint64{1 << n, math.MaxUint64 << n, 1<<63 | 1<<n} {
			if got := Lowest(w); got != n {
				t.Errorf("Lowest(%#x): %d", w, got)
			}
		}
	}
}

func TestAny(t *testing.T) {
	for _, c := range []struct {
		list []bool
		want bool
	}{
		{nil, false},
		{[]bool{false}, false},
		{[]bool{true}, true},
		{[]bool{true, false, false}, true},
		{[]bool{false, true, false}, true},
		{[]bool{false, false, true}, true},
		{[]bool{false, false, false}, false},
		{[]bool{true, true}, true},
	} {
		if got := Any(c.list...); got != c.want {
			t.Errorf("Any(%v): %v", c.list, got)
		}
	}
}

// P1.2

func TestSext(t *testing.T) {
	for _, c := range []struct {
		w    uint64
		n    int
		want uint64
	}{
		{0x80, 8, 0xffffffffffffff80},
		{0x7f, 8, 0x7f},
		{0xff7f, 8, 0x7f},
		{0x0180, 8, 0xffffffffffffff80},
		{1, 1, math.MaxUint64},
		{2, 1, 0},
		{0x4000000000000000, 63, 0xc000000000000000},
		{0x8000000000000000, 63, 0},
		{0x8000000000000000, 64, 0x8000000000000000},
		{0x0123456789abcdef, 65, 0x0123456789abcdef},
		{0x0123456789abcdef, math.MaxInt, 0x0123456789abcdef},
		{math.MaxUint64, 0, 0},
		{math.MaxUint64, -1, 0},
		{math.MaxUint64, math.MinInt, 0},
	} {
		if got := Sext(c.w, c.n); got != c.want {
			t.Errorf("Sext(%#x, %d): %#x, not %#x", c.w, c.n, got, c.want)
		}
	}
	for _, w := range someWords() {
		for _, n := range someInts() {
			want := ofBits(func(i int) bool { return n >= 1 && bitAt(w, min(i, n-1)) })
			if got := Sext(w, n); got != want {
				t.Errorf("Sext(%#x, %d): %#x, not %#x", w, n, got, want)
			}
		}
	}
}

func TestSext32(t *testing.T) {
	for _, c := range []struct{ w, want uint64 }{
		{0, 0},
		{0x7fffffff, 0x7fffffff},
		{0x80000000, 0xffffffff80000000},
		{0xffffffff, math.MaxUint64},
		{0xabcdef0112345678, 0x12345678},
		{0x00000001ffffff00, 0xffffffffffffff00},
	} {
		if got := Sext32(c.w); got != c.want {
			t.Errorf("Sext32(%#x): %#x, not %#x", c.w, got, c.want)
		}
	}
	for _, w := range someWords() {
		if got := Sext32(w); got != Sext(w, 32) {
			t.Errorf("Sext32(%#x): %#x", w, got)
		}
	}
}

// P1.3

func TestOf(t *testing.T) {
	for _, c := range []struct {
		bytes []byte
		want  uint64
	}{
		{nil, 0},
		{[]byte{}, 0},
		{[]byte{0xfe}, 0xfe},
		{[]byte{1, 2, 3}, 0x030201},
		{[]byte{0, 0, 0, 0, 0, 0, 0xff}, 0x00ff000000000000},
		{[]byte{0xef, 0xcd, 0xab, 0x89, 0x67, 0x45, 0x23, 0x81}, 0x8123456789abcdef},
		{[]byte{0xef, 0xcd, 0xab, 0x89, 0x67, 0x45, 0x23, 0x81, 0xff}, 0x8123456789abcdef},
		{slices.Repeat([]byte{0x11}, 5000), 0x1111111111111111},
	} {
		if got := Of(c.bytes...); got != c.want {
			t.Errorf("Of(% x): %#x, not %#x", c.bytes, got, c.want)
		}
	}
}

func TestBytes(t *testing.T) {
	const w = 0x8123456789abcdef
	all := []byte{0xef, 0xcd, 0xab, 0x89, 0x67, 0x45, 0x23, 0x81}
	for _, n := range someInts() {
		want := make([]byte, max(0, min(n, 4096)))
		copy(want, all)
		if got := Bytes(w, n); !slices.Equal(got, want) {
			t.Errorf("Bytes(%#x, %d): % x, not % x", uint64(w), n, got, want)
		}
	}
}

// P1.4

func TestAligned(t *testing.T) {
	for _, c := range []struct {
		w, by uint64
		want  bool
	}{
		{0, 0, true}, {5, 0, true}, {math.MaxUint64, 0, true},
		{0, 1, true}, {7, 1, true}, {math.MaxUint64, 1, true},
		{0, 4, true}, {4, 4, true}, {2, 4, false}, {6, 4, false}, {7, 4, false}, {8, 4, true},
		{4096, 4096, true}, {4095, 4096, false}, {2048, 4096, false},
		{0, 1 << 63, true}, {1 << 63, 1 << 63, true}, {1 << 62, 1 << 63, false}, {math.MaxUint64, 1 << 63, false},
	} {
		if got := Aligned(c.w, c.by); got != c.want {
			t.Errorf("Aligned(%#x, %#x): %v", c.w, c.by, got)
		}
	}
	for _, w := range someWords() {
		for n := range 64 {
			want := true
			for i := range n {
				want = want && !bitAt(w, i)
			}
			if got := Aligned(w, 1<<n); got != want {
				t.Errorf("Aligned(%#x, 1<<%d): %v", w, n, got)
			}
		}
	}
}
