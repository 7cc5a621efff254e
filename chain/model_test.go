package chain

import (
	"bytes"
	"math"
	"math/big"
	"math/rand"
	"slices"
	"testing"

	"vireo/api"
	"vireo/ram"
	"vireo/ring"
)

const (
	base  = 0x80000000
	ones  = math.MaxUint64
	page  = 4096
	small = 4 * page
	end   = base + small // of a small memory

	next     = api.FlagNext
	write    = api.FlagWrite
	indirect = api.FlagIndirect
)

// sizes: of all queues that may be.
var sizes = []int{1, 2, 4, 8, 16, 32, 64, 128, 256}

func made(t *testing.T, size uint64) *ram.RAM {
	t.Helper()
	m, e := ram.New(size)
	if e != api.OK || m == nil {
		t.Fatalf("New(%d): %d", size, e)
	}
	return m
}

// pattern: bytes of which no two near one another are alike, whatever page they lie in; none is 0.
func pattern(n uint64) []byte {
	out := make([]byte, n)
	for i := range out {
		out[i] = byte(i%251 + 1)
	}
	return out
}

// filled: a small memory with a pattern in it.
func filled(t *testing.T) *ram.RAM {
	t.Helper()
	m := made(t, small)
	if !m.Write(base, pattern(small)) {
		t.Fatalf("Write of %d bytes", small)
	}
	return m
}

// queue: a layout that may be in a small memory, whose descriptors lie at a place; the rest lies in the last page.
func queue(t *testing.T, size int, at uint64) api.Layout {
	t.Helper()
	l := api.Layout{Size: size, Desc: at, Avail: base + 3*page, Used: base + 3*page + 1024}
	if e := ring.Check(made(t, small), l); e != api.OK {
		t.Fatalf("Check of %+v: %d", l, e)
	}
	return l
}

// lay puts descriptors into a table, from its number first on.
func lay(t *testing.T, m *ram.RAM, table uint64, first int, list ...api.Desc) {
	t.Helper()
	for i, d := range list {
		if !m.Write(table+16*uint64(first+i), ring.Bytes(d)) {
			t.Fatalf("a table at %#x: no place for the number %d", table, first+i)
		}
	}
}

// seg: the segment of a descriptor.
func seg(d api.Desc) api.Segment {
	return api.Segment{At: d.Addr, Len: uint64(d.Len), Write: d.Flags&write > 0}
}

func segs(list ...api.Desc) []api.Segment {
	var out []api.Segment
	for _, d := range list {
		out = append(out, seg(d))
	}
	return out
}

func same(a, b Chain) bool { return a.Table == b.Table && slices.Equal(a.Segments, b.Segments) }

// walks: a walk finds just this chain.
func walks(t *testing.T, m *ram.RAM, l api.Layout, head int, allowed bool, want Chain) {
	t.Helper()
	if got, e := Walk(m, l, head, allowed); e != api.OK || !same(got, want) {
		t.Fatalf("Walk of %+v, %d, %v: %+v, %d, not %+v", l, head, allowed, got, e, want)
	}
}

// refuses: a walk has an error, and tells the zero Chain.
func refuses(t *testing.T, m *ram.RAM, l api.Layout, head int, allowed bool, want api.Errno) {
	t.Helper()
	if got, e := Walk(m, l, head, allowed); e != want || !same(got, Chain{}) {
		t.Fatalf("Walk of %+v, %d, %v: %+v, %d, not the zero Chain and %d", l, head, allowed, got, e, want)
	}
}

// found: the chain of a walk that has no error.
func found(t *testing.T, m *ram.RAM, l api.Layout, head int) Chain {
	t.Helper()
	c, e := Walk(m, l, head, true)
	if e != api.OK {
		t.Fatalf("Walk of %+v, %d: %d", l, head, e)
	}
	return c
}

// chained: descriptors 0, 1 and so on of a queue, each of which leads to the one behind it.
func chained(t *testing.T, m *ram.RAM, l api.Layout, list ...api.Desc) Chain {
	t.Helper()
	list = slices.Clone(list)
	for i := range len(list) - 1 {
		list[i].Flags |= next
		list[i].Next = uint16(i + 1)
	}
	lay(t, m, l.Desc, 0, list...)
	return found(t, m, l, 0)
}

// all: what stands in a memory. It is asked of a copy, so that no log is told of it.
func all(t *testing.T, m *ram.RAM) []byte {
	t.Helper()
	row, ok := m.Copy().Read(base, m.Size())
	if !ok {
		t.Fatalf("Read of all %d bytes", m.Size())
	}
	return row
}

// holds: just these bytes stand in a memory.
func holds(t *testing.T, m *ram.RAM, want []byte) {
	t.Helper()
	got := all(t, m)
	if bytes.Equal(got, want) {
		return
	}
	for i := range got {
		if got[i] != want[i] {
			t.Fatalf("at %#x stands %#x, not %#x", base+i, got[i], want[i])
		}
	}
}

// watched: a memory tells just these pieces while something is done.
func watched(t *testing.T, m *ram.RAM, reads, writes []api.Span, do func()) {
	t.Helper()
	log := &ram.Log{}
	m.Watch(log)
	do()
	m.Watch(nil)
	if !slices.Equal(log.Reads, reads) || !slices.Equal(log.Writes, writes) {
		t.Fatalf("read %+v, written %+v, not %+v, %+v", log.Reads, log.Writes, reads, writes)
	}
}

// The model reckons with numbers as great as one likes, and with one byte after the other.

func great(n uint64) *big.Int { return new(big.Int).SetUint64(n) }

// within: do n bytes at at lie in a memory of these bytes?
func within(row []byte, at, n uint64) bool {
	last := new(big.Int).Add(great(at), great(n))
	return at >= base && last.Cmp(great(base+uint64(len(row)))) <= 0
}

// number: the word of n bytes, the lowest first.
func number(row []byte, at uint64, n int) uint64 {
	var w uint64
	for i := n - 1; i >= 0; i-- {
		w = w*256 + uint64(row[at-base+uint64(i)])
	}
	return w
}

// modelWalk: what Walk must tell of a layout that may be.
func modelWalk(row []byte, l api.Layout, head int, allowed bool) (Chain, api.Errno) {
	c := Chain{}
	table, size, at, left, inner := l.Desc, l.Size, head, l.Size, false
	for {
		if at < 0 || at >= size {
			return Chain{}, api.ErrIndex
		}
		if left == 0 {
			return Chain{}, api.ErrLoop
		}
		left--
		place := table + 16*uint64(at)
		addr, n := number(row, place, 8), number(row, place+8, 4)
		flags, to := number(row, place+12, 2), number(row, place+14, 2)
		hasNext, hasWrite, hasTable := flags%2 == 1, flags/2%2 == 1, flags/4%2 == 1
		if hasTable {
			switch {
			case inner || !allowed || hasNext:
				return Chain{}, api.ErrNested
			case n%16 != 0 || n < 16 || n > 4096:
				return Chain{}, api.ErrTable
			case !within(row, addr, n):
				return Chain{}, api.ErrPlace
			}
			c.Table = api.Span{At: addr, Len: n}
			table, size, at, left, inner = addr, int(n/16), 0, int(n/16), true
			continue
		}
		if !within(row, addr, n) {
			return Chain{}, api.ErrPlace
		}
		if !hasWrite && slices.ContainsFunc(c.Segments, func(s api.Segment) bool { return s.Write }) {
			return Chain{}, api.ErrOrder
		}
		c.Segments = append(c.Segments, api.Segment{At: addr, Len: n, Write: hasWrite})
		if !hasNext {
			return c, api.OK
		}
		at = int(to)
	}
}

// flat: the addresses of all bytes that are to be read, or of all that are to be written, one behind the other.
func flat(c Chain, write bool) []uint64 {
	var out []uint64
	for _, s := range c.Segments {
		for i := range s.Len {
			if s.Write == write {
				out = append(out, s.At+i)
			}
		}
	}
	return out
}

// cut: n addresses from one on; false: there aren't so many.
func cut(list []uint64, from, n uint64) ([]uint64, bool) {
	if new(big.Int).Add(great(from), great(n)).Cmp(great(uint64(len(list)))) > 0 {
		return nil, false
	}
	return list[from : from+n], true
}

// gathers: Gather tells what it must, and changes nothing.
func gathers(t *testing.T, m *ram.RAM, c Chain, from, n uint64) {
	t.Helper()
	row := all(t, m)
	places, is := cut(flat(c, false), from, n)
	var want []byte
	for _, at := range places {
		want = append(want, row[at-base])
	}
	if got, ok := c.Gather(m, from, n); ok != is || !bytes.Equal(got, want) {
		t.Fatalf("Gather(%d, %d) of %+v: %v, %v, not %v, %v", from, n, c.Segments, got, ok, want, is)
	}
	holds(t, m, row)
}

// scatters: Scatter tells what it must, and writes just what it must.
func scatters(t *testing.T, m *ram.RAM, c Chain, from uint64, data []byte) {
	t.Helper()
	row := all(t, m)
	places, is := cut(flat(c, true), from, uint64(len(data)))
	for i, at := range places {
		row[at-base] = data[i]
	}
	if ok := c.Scatter(m, from, data); ok != is {
		t.Fatalf("Scatter(%d) of %d bytes to %+v: %v", from, len(data), c.Segments, ok)
	}
	holds(t, m, row)
}

// strange: numbers that are no descriptor's, some of which would be if they were cut.
var strange = []int{
	math.MinInt, math.MinInt + 1, math.MinInt + 4, math.MinInt32, -65536, -65535, -257, -256, -255, -4, -2, -1,
	256, 257, 512, 65535, 65536, 65537, math.MaxInt32, 1 << 32, 1<<32 + 1, 1<<32 + 4, 1 << 60, 1 << 62, math.MaxInt - 1, math.MaxInt,
}

// someDesc: mostly one that may be, in a table of so many.
func someDesc(chance *rand.Rand, size int) api.Desc {
	d := api.Desc{Addr: base + chance.Uint64()%small, Len: uint32(chance.Intn(40)), Next: uint16(chance.Intn(size))}
	switch chance.Intn(40) {
	case 0:
		d.Addr = base - 20 + chance.Uint64()%40
	case 1:
		d.Addr = end - 40 + chance.Uint64()%60
	case 2:
		d.Addr = ones - chance.Uint64()%40
	case 3:
		d.Len = chance.Uint32()
	case 4:
		d.Next = uint16(size + chance.Intn(3))
	case 5:
		d.Next = uint16(chance.Uint32())
	}
	if chance.Intn(4) > 0 {
		d.Flags |= next
	}
	if chance.Intn(5) == 0 {
		d.Flags |= write
	}
	if chance.Intn(12) == 0 {
		d.Flags |= 0xfff8 & uint16(chance.Uint32())
	}
	return d
}

// someTable: a descriptor that names a table, mostly one that may be.
func someTable(chance *rand.Rand, at uint64, size int) api.Desc {
	d := api.Desc{Addr: at, Len: uint32(16 * size), Flags: indirect, Next: uint16(chance.Intn(4))}
	switch chance.Intn(16) {
	case 0:
		d.Addr = end - uint64(chance.Intn(100))
	case 1:
		d.Addr = chance.Uint64()
	case 2:
		d.Len += uint32(chance.Intn(16))
	case 3:
		d.Len = uint32(16 * (chance.Intn(5) * 128))
	case 4:
		d.Flags |= next
	}
	if chance.Intn(4) == 0 {
		d.Flags |= write
	}
	return d
}

// someQueue: a small memory with a queue in it and a table beside it, and mostly a descriptor that names that table.
func someQueue(t *testing.T, chance *rand.Rand) (*ram.RAM, api.Layout) {
	m := filled(t)
	l := queue(t, sizes[chance.Intn(6)], base+16*uint64(chance.Intn(512)))
	inner, table := 1+chance.Intn(12), base+2*page+uint64(chance.Intn(page/2))
	for i := range l.Size {
		lay(t, m, l.Desc, i, someDesc(chance, l.Size))
	}
	for i := range inner {
		d := someDesc(chance, inner)
		if chance.Intn(12) == 0 {
			d.Flags |= indirect
		}
		lay(t, m, table, i, d)
	}
	for range chance.Intn(3) {
		lay(t, m, l.Desc, chance.Intn(l.Size), someTable(chance, table, inner))
	}
	return m, l
}
