package bus

import (
	"math"
	"testing"

	"vireo/disk"
)

// widths: numbers of bytes that may be asked for, and many that may not.
var widths = []int{1, 2, 3, 4, 5, 6, 7, 8, 0, -1, -2, -4, -8, 9, 10, 15, 16, 32, 64, 256, 257, 260, 4096, 65536, 1<<32 + 4, math.MinInt, math.MinInt + 4, math.MinInt32, math.MaxInt32, math.MaxInt}

// piece is a part, and the bytes that it has: from from on, up to last.
type piece struct {
	part       int
	from, last uint64
}

// piecesOf: the parts' pieces, with a memory of so many bytes.
func piecesOf(size uint64) []piece {
	return []piece{
		{2, 0x02000000, 0x0200ffff},
		{3, 0x0c000000, 0x0c3fffff},
		{4, 0x10001000, 0x10001fff},
		{5, 0x10002000, 0x10002fff},
		{1, 0x80000000, 0x80000000 + size - 1},
	}
}

// partOf: the part in which each of n bytes lies, found byte by byte, and the place of the first; nothing, if there is none.
func partOf(size, at uint64, n int) (int, uint64) {
	if n < 1 || n > 8 {
		return 0, 0
	}
	found := piece{}
	for i := range uint64(n) {
		byteOf := piece{}
		for _, p := range piecesOf(size) {
			if p.from <= at+i && at+i <= p.last {
				byteOf = p
			}
		}
		if byteOf.part == 0 || i > 0 && byteOf != found {
			return 0, 0
		}
		found = byteOf
	}
	if found.part == 1 {
		return 1, at
	}
	return found.part, at - found.from
}

// edges: places at which something begins or ends, and those about them.
func edges(size uint64) []uint64 {
	var list []uint64
	middles := []uint64{0, 1 << 31, 1 << 32, 1<<32 + base, 1<<32 + blkAt, 1 << 63, 1<<63 + base, 1<<63 + blkAt, ones}
	for _, p := range piecesOf(size) {
		middles = append(middles, p.from, p.last, p.from+(p.last-p.from)/2)
	}
	for _, middle := range middles {
		for i := range uint64(41) {
			list = append(list, middle-20+i)
		}
	}
	return list
}

// P21.1: of every number of bytes, at and about all places where a part begins or ends, in memories of several sizes, and near 2^64.
func TestPart(t *testing.T) {
	d, _ := disk.New(1, false)
	for _, size := range []uint64{4096, 8192, 40960, 1 << 20, 1 << 28} {
		b := New(memory(t, size), d, "")
		for _, at := range edges(size) {
			for _, n := range widths {
				part, place := b.Part(at, n)
				if p, w := partOf(size, at, n); part != p || place != w {
					t.Errorf("of %d bytes: Part(%#x, %d): %d, %#x, not %d, %#x", size, at, n, part, place, p, w)
				}
			}
		}
	}
}

// P21.1: the first and the last piece of n bytes of each part, and those a byte further out.
func TestPartAtItsEnds(t *testing.T) {
	x := fresh(t)
	for _, p := range piecesOf(size) {
		for n := 1; n <= 8; n++ {
			first, last := p.from, p.last+1-uint64(n)
			from := first
			if p.part == Memory {
				from = 0
			}
			for _, at := range []uint64{first, last} {
				if part, place := x.b.Part(at, n); part != p.part || place != at-from {
					t.Errorf("Part(%#x, %d): %d, %#x", at, n, part, place)
				}
			}
			// With one byte the piece further out may lie in the part beside it.
			for _, at := range []uint64{first - 1, last + 1} {
				if part, place := x.b.Part(at, n); n > 1 && (part != None || place != 0) || part == p.part {
					t.Errorf("Part(%#x, %d): %d, %#x", at, n, part, place)
				}
			}
		}
	}
}

// P21.1: at none of the places between the parts is there one, of all that can be reached by steps of a page.
func TestPartOfEveryPage(t *testing.T) {
	x := fresh(t)
	found := map[int]int{}
	for at := uint64(0); at < 1<<32; at += page {
		part, place := x.b.Part(at, 8)
		if p, w := partOf(size, at, 8); part != p || place != w {
			t.Fatalf("Part(%#x, 8): %d, %#x, not %d, %#x", at, part, place, p, w)
		}
		found[part]++
	}
	if found[1] != size/page || found[2] != 16 || found[3] != 1024 || found[4] != 1 || found[5] != 1 {
		t.Errorf("so many pages: %v", found)
	}
}

// P21.1: the five parts have names, others have none.
func TestName(t *testing.T) {
	for part, want := range []string{"", "memory", "clint", "plic", "disk", "console", ""} {
		if got := Name(part); got != want {
			t.Errorf("Name(%d): %q", part, got)
		}
	}
	for _, part := range []int{-1, -2, -5, math.MinInt, math.MinInt32, 7, 255, 256, 257, 1<<32 + 1, math.MaxInt} {
		if got := Name(part); got != "" {
			t.Errorf("Name(%d): %q", part, got)
		}
	}
	if None != 0 || Memory != 1 || TimePart != 2 || IntPart != 3 || BlkPart != 4 || TTYPart != 5 {
		t.Errorf("the parts have other numbers")
	}
}
