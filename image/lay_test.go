package image

import (
	"bytes"
	"fmt"
	"math/big"
	"slices"
	"testing"

	"vireo/api"
)

// parts: a program of some.
func parts(list ...Part) Program { return Program{Parts: list} }

// P25.3: sizes up to 2^28 may be, be they a memory's or not.
func TestLaySizes(t *testing.T) {
	for _, size := range []uint64{0, 1, 7, 4095, 4096, 4097, 1<<28 - 1, 1 << 28} {
		lays(t, "no part", Program{Entry: 5}, size, nil, 0)
	}
	part := Part{base, []byte{1, 2}, 3}
	for size, e := range map[uint64]api.Errno{0: 21, 1: 21, 2: 21, 3: 0, 4: 0, 1 << 28: 0, 1<<28 + 1: 20, 1 << 29: 20, 1 << 32: 20, 1<<32 + 3: 20, top: 20, ones: 20} {
		var want []byte
		if e == 0 {
			want = []byte{1, 2, 0}
		}
		lays(t, fmt.Sprintf("%#x bytes", size), parts(part), size, want, e)
	}
	lays(t, "no part in too much memory", Program{}, 1<<28+1, nil, 20)
	lays(t, "a part that isn't there in too much memory", parts(Part{0, nil, ones}), ones, nil, 20)
	lays(t, "too many data in too much memory", parts(Part{base, []byte{1}, 0}), 1<<28+1, nil, 20)
}

// P25.3: a part lies in memory, all of it.
func TestLayPlaces(t *testing.T) {
	for _, size := range []uint64{0, 1, 16, 4096} {
		for _, at := range []uint64{0, 1, 16, base - 4096, base - 2, base - 1, base, base + 1, base + 8, base + 15, base + 16, base + 17, base + 4095, base + 4096, base + 4097, base + 1<<28, 1 << 32, 1<<32 + base, top, top + base, ones - 1, ones} {
			for _, n := range []uint64{0, 1, 2, 8, 15, 16, 17, 4095, 4096, 4097, 1 << 32, ones - base, ones - base + 1, ones - base + 2, ones - at, ones - at + 1, ones - at + 2, base - at, base - at + 1, base - at + 17, top, ones} {
				end := new(big.Int).Add(new(big.Int).SetUint64(at), new(big.Int).SetUint64(n))
				right := at >= base && end.Cmp(big.NewInt(int64(base+size))) <= 0
				what := fmt.Sprintf("%#x bytes at %#x in %d", n, at, size)
				if !right {
					lays(t, what, parts(Part{at, nil, n}), size, nil, 21)
					lays(t, what+", behind another", parts(Part{base, nil, size}, Part{at, nil, n}), size, nil, 21)
					lays(t, what+", ahead of another", parts(Part{at, nil, n}, Part{base, nil, size}), size, nil, 21)
					continue
				}
				var want []byte
				if n > 0 {
					want = append(make([]byte, at-base), pattern(int(n), 1)...)
				}
				lays(t, what, parts(Part{at, pattern(int(n), 1), n}), size, want, 0)
			}
		}
	}
}

// P25.3: data are no more than Size.
func TestLayData(t *testing.T) {
	for _, n := range []int{0, 1, 2, 16, 17} {
		for _, size := range []uint64{0, 1, 2, 15, 16} {
			data := pattern(n, 3)
			p := parts(Part{base + 4, data, size})
			if n > int(size) {
				lays(t, fmt.Sprintf("%d of %d", n, size), p, 4096, nil, 21)
				lays(t, fmt.Sprintf("%d of %d, where there is no room", n, size), p, 10, nil, 21)
				continue
			}
			want := append(make([]byte, 4), append(data, make([]byte, int(size)-n)...)...)
			if size == 0 {
				want = nil
			}
			lays(t, fmt.Sprintf("%d of %d", n, size), p, 4096, want, 0)
		}
	}
}

// P25.3: of parts that lie one over the other the later one holds, with its data and the 0 behind them.
func TestLayOver(t *testing.T) {
	a, b := []byte("abcdefgh"), []byte("AB")
	for _, c := range []struct {
		what string
		p    Program
		want string
	}{
		{"beside one another", parts(Part{base, a, 8}, Part{base + 8, b, 2}), "abcdefghAB"},
		{"the later one ahead", parts(Part{base + 2, a, 8}, Part{base, b, 2}), "ABabcdefgh"},
		{"one in another", parts(Part{base, a, 8}, Part{base + 3, b, 2}), "abcABfgh"},
		{"one in another, turned", parts(Part{base + 3, b, 2}, Part{base, a, 8}), "abcdefgh"},
		{"with 0", parts(Part{base, a, 8}, Part{base + 3, b, 4}), "abcAB\x00\x00h"},
		{"0 alone", parts(Part{base, a, 8}, Part{base + 1, nil, 6}), "a\x00\x00\x00\x00\x00\x00h"},
		{"0 over all", parts(Part{base + 1, a, 8}, Part{base, nil, 10}), "\x00\x00\x00\x00\x00\x00\x00\x00\x00\x00"},
		{"0 ahead", parts(Part{base, nil, 10}, Part{base + 1, a, 8}), "\x00abcdefgh\x00"},
		{"over the end", parts(Part{base, a, 8}, Part{base + 7, b, 3}), "abcdefgAB\x00"},
		{"over the beginning", parts(Part{base + 1, a, 8}, Part{base, b, 3}), "AB\x00cdefgh"},
		{"a gap", parts(Part{base + 6, b, 2}, Part{base + 2, b, 2}), "\x00\x00AB\x00\x00AB"},
		{"three", parts(Part{base, a, 8}, Part{base + 2, b, 5}, Part{base + 6, []byte("xyz"), 3}), "abAB\x00\x00xyz"},
		{"the same twice", parts(Part{base, a, 8}, Part{base, b, 8}, Part{base, a, 8}), "abcdefgh"},
		{"one without bytes", parts(Part{base, a, 8}, Part{base + 2, nil, 0}), "abcdefgh"},
		{"one without bytes, behind", parts(Part{base, b, 2}, Part{base + 16, nil, 0}), "AB"},
		{"such ones alone", parts(Part{base, nil, 0}, Part{base + 9, []byte{}, 0}), ""},
	} {
		lays(t, c.what, c.p, 16, []byte(c.want), 0)
		lays(t, c.what+", in more", c.p, 1<<28, []byte(c.want), 0)
	}
}

// P25.3: more parts than a file has may be laid.
func TestLayMany(t *testing.T) {
	var p Program
	var want []byte
	for i := range 3000 {
		p.Parts = append(p.Parts, Part{base + uint64(i), []byte{byte(i)}, 3})
		want = append(want, byte(i))
	}
	lays(t, "3000 parts", p, 4096, append(want, 0, 0), 0)
	slices.Reverse(p.Parts)
	lays(t, "3000 parts, turned round", p, 4096, append([]byte{0}, make([]byte, 3001)...), 0)
}

// P25.3: the greatest memory, up to its last byte.
func TestLayGreatest(t *testing.T) {
	got, e := Lay(parts(Part{base + 1<<28 - 1, []byte{7}, 1}, Part{base, []byte{8}, 1}), 1<<28)
	if e != 0 || len(got) != 1<<28 || got[0] != 8 || got[1<<28-1] != 7 {
		t.Fatalf("%d bytes, %d", len(got), e)
	}
	got[0], got[1<<28-1] = 0, 0
	if !bytes.Equal(got, make([]byte, 1<<28)) {
		t.Errorf("there is something between them")
	}
}
