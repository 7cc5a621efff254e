package chain

import (
	"bytes"
	"math"
	"slices"
	"testing"

	"vireo/api"
	"vireo/ram"
)

// data is where the tests' segments lie.
const data = base + page

func toRead(at uint64, n uint32) api.Desc  { return api.Desc{Addr: at, Len: n} }
func toWrite(at uint64, n uint32) api.Desc { return api.Desc{Addr: at, Len: n, Flags: write} }

// P16.2: how many bytes are to be read, and to be written.
func TestSizes(t *testing.T) {
	for _, c := range []struct {
		list          []api.Desc
		read, written uint64
	}{
		{[]api.Desc{toRead(data, 5)}, 5, 0},
		{[]api.Desc{toWrite(data, 6)}, 0, 6},
		{[]api.Desc{toRead(data, 0)}, 0, 0},
		{[]api.Desc{toWrite(data, 0)}, 0, 0},
		{[]api.Desc{toRead(data, 0), toWrite(data, 0)}, 0, 0},
		{[]api.Desc{toRead(data, 1), toRead(data, 2), toRead(data, 4)}, 7, 0},
		{[]api.Desc{toWrite(data, 1), toWrite(data, 2), toWrite(data, 4)}, 0, 7},
		{[]api.Desc{toRead(data, 16), toWrite(data, 512), toWrite(data, 1)}, 16, 513},
		{[]api.Desc{toRead(data, 3), toRead(data, 0), toWrite(data, 0), toWrite(data, 9)}, 3, 9},
		{[]api.Desc{toRead(base, small), toRead(base, small), toWrite(base, small)}, 2 * small, small},
	} {
		m, l := filled(t), queue(t, 4, base)
		if read, written := chained(t, m, l, c.list...).Sizes(); read != c.read || written != c.written {
			t.Errorf("Sizes of %+v: %d, %d", c.list, read, written)
		}
	}
	if read, written := (Chain{}).Sizes(); read != 0 || written != 0 {
		t.Errorf("Sizes of no segment: %d, %d", read, written)
	}
}

// P16.2: sums are words of 64 bits: 511 segments of as many bytes as there are.
func TestGreatestSizes(t *testing.T) {
	m := made(t, api.MaxRAM)
	l := api.Layout{Size: 256, Desc: base, Avail: base + page, Used: base + 2*page}
	for i := range 256 {
		d := api.Desc{Addr: base, Len: uint32(api.MaxRAM), Flags: next, Next: uint16(i + 1)}
		lay(t, m, base, i, d)
		d.Flags |= write
		lay(t, m, base+4*page, i, d)
	}
	lay(t, m, base, 255, tableOf(base+4*page, 256))
	lay(t, m, base+4*page, 255, api.Desc{Addr: base, Len: uint32(api.MaxRAM), Flags: write})
	c := found(t, m, l, 0)
	if read, written := c.Sizes(); read != 255<<28 || written != 256<<28 {
		t.Errorf("Sizes: %#x, %#x", read, written)
	}
	m.Write(base+3*page, []byte{1, 2, 3})
	if got, ok := c.Gather(m, 254<<28+3*page, 3); !ok || !bytes.Equal(got, []byte{1, 2, 3}) {
		t.Errorf("Gather of the last segment: %v, %v", got, ok)
	}
	if got, ok := c.Gather(m, 255<<28, 0); !ok || len(got) != 0 {
		t.Errorf("Gather of nothing at the end: %v, %v", got, ok)
	}
	if got, ok := c.Gather(m, 255<<28-1, 2); ok || len(got) != 0 {
		t.Errorf("Gather beyond the end: %v, %v", got, ok)
	}
	if c.Scatter(m, 256<<28-1, []byte{1, 2}) || !c.Scatter(m, 256<<28-1, []byte{9}) {
		t.Errorf("Scatter to the end")
	}
	if w, _ := m.Load(base+api.MaxRAM-1, 1); w != 9 {
		t.Errorf("the last byte is %d", w)
	}
}

// kinds: chains of several shapes: of one segment, of several, beside one another, apart, without bytes, upon one another, of one kind alone.
func kinds() [][]api.Desc {
	return [][]api.Desc{
		{toRead(data, 7)},
		{toWrite(data, 7)},
		{toRead(data, 0)},
		{toWrite(data, 0)},
		{toRead(data, 5), toWrite(data+100, 6)},
		{toRead(data+9, 3), toRead(data, 4), toRead(data+20, 1)},
		{toWrite(data+9, 3), toWrite(data, 4), toWrite(data+20, 1)},
		{toRead(data, 3), toRead(data+3, 3), toWrite(data+6, 3), toWrite(data+9, 3)},
		{toRead(data, 0), toRead(data+3, 3), toRead(data+1, 0), toRead(data+9, 2), toRead(end, 0)},
		{toWrite(data, 0), toWrite(data+3, 3), toWrite(data+1, 0), toWrite(data+9, 2), toWrite(end, 0)},
		{toRead(data, 5), toRead(data+2, 5), toRead(data, 5)},
		{toWrite(data, 5), toWrite(data+2, 5), toWrite(data+1, 2)},
		{toRead(data, 6), toWrite(data+2, 6)},
		{toRead(data+page-3, 6), toWrite(data+page-2, 7)},
		{toRead(end-4, 4), toRead(base, 2), toWrite(end-3, 3), toWrite(base+64, 2)},
	}
}

// near: numbers about a length, about 0, and near the greatest one.
func near(n uint64) []uint64 {
	return []uint64{
		0, 1, 2, 3, n / 2, n - 2, n - 1, n, n + 1, n + 2, 64, 1 << 31, 1 << 32, 1 << 63, 1<<63 + 1, ones - n, ones - n + 1, ones - n + 2, ones - 1, ones,
	}
}

// P16.2: every from and n of chains of several shapes, beyond their ends, and up to the greatest number.
func TestGather(t *testing.T) {
	for _, list := range kinds() {
		m, l := filled(t), queue(t, 8, base)
		c := chained(t, m, l, list...)
		read, _ := c.Sizes()
		for from := range read + 3 {
			for n := range read + 3 {
				gathers(t, m, c, from, n)
			}
		}
		for _, from := range near(read) {
			for _, n := range near(read) {
				gathers(t, m, c, from, n)
			}
		}
	}
}

// P16.2: Gather by hand: within one, across edges, of all, of nothing.
func TestGatherByHand(t *testing.T) {
	m, l := made(t, small), queue(t, 8, base)
	m.Write(data, []byte{1, 2, 3, 0, 4, 5, 0, 6, 7, 8, 9})
	c := chained(t, m, l, toRead(data, 3), toRead(data+4, 2), toRead(data+6, 0), toRead(data+7, 4), toWrite(data+3, 1))
	for _, want := range []struct {
		from, n uint64
		data    []byte
		ok      bool
	}{
		{0, 9, []byte{1, 2, 3, 4, 5, 6, 7, 8, 9}, true},
		{0, 3, []byte{1, 2, 3}, true},
		{1, 1, []byte{2}, true},
		{2, 2, []byte{3, 4}, true},
		{3, 2, []byte{4, 5}, true},
		{2, 5, []byte{3, 4, 5, 6, 7}, true},
		{5, 4, []byte{6, 7, 8, 9}, true},
		{8, 1, []byte{9}, true},
		{0, 0, nil, true},
		{3, 0, nil, true},
		{9, 0, nil, true},
		{10, 0, nil, false},
		{9, 1, nil, false},
		{0, 10, nil, false},
		{1, 9, nil, false},
		{8, 2, nil, false},
		{ones, 0, nil, false},
		{ones, 1, nil, false},
		{ones, 2, nil, false},
		{ones, 10, nil, false},
		{0, ones, nil, false},
		{1, ones, nil, false},
		{5, ones - 3, nil, false},
		{ones, ones, nil, false},
		{1 << 63, 1 << 63, nil, false},
	} {
		if got, ok := c.Gather(m, want.from, want.n); ok != want.ok || !bytes.Equal(got, want.data) {
			t.Errorf("Gather(%d, %d): %v, %v", want.from, want.n, got, ok)
		}
	}
}

// P16.2: each piece of a segment is read at once, in order, and nothing else is; where it is refused nothing is read.
func TestPiecesThatAreGathered(t *testing.T) {
	m, l := filled(t), queue(t, 8, base)
	c := chained(t, m, l, toRead(data, 3), toRead(data+40, 0), toRead(data+20, 5000), toWrite(data+5, 9), toWrite(data, 3))
	for _, x := range []struct {
		from, n uint64
		reads   []api.Span
	}{
		{0, 5003, []api.Span{{At: data, Len: 3}, {At: data + 20, Len: 5000}}},
		{1, 3, []api.Span{{At: data + 1, Len: 2}, {At: data + 20, Len: 1}}},
		{0, 3, []api.Span{{At: data, Len: 3}}},
		{3, 1, []api.Span{{At: data + 20, Len: 1}}},
		{4, 4999, []api.Span{{At: data + 21, Len: 4999}}},
		{2, 0, nil},
		{5003, 0, nil},
		{5004, 0, nil},
		{0, 5004, nil},
		{1, 5003, nil},
		{5003, 1, nil},
		{1, ones, nil},
	} {
		watched(t, m, x.reads, nil, func() { c.Gather(m, x.from, x.n) })
	}
}

// P16.2: Gather tells what stands there now.
func TestGatherTellsWhatStandsThere(t *testing.T) {
	m, l := made(t, small), queue(t, 2, base)
	c := chained(t, m, l, toRead(data, 2), toRead(data, 2))
	for i := range 256 {
		m.Store(data+1, 1, uint64(i))
		if got, ok := c.Gather(m, 0, 4); !ok || !bytes.Equal(got, []byte{0, byte(i), 0, byte(i)}) {
			t.Fatalf("Gather: %v, %v", got, ok)
		}
	}
}

// P16.2, P16.4: every from and length of chains of several shapes: which bytes stand where behind it, and that all others are as they were.
func TestScatter(t *testing.T) {
	for _, list := range kinds() {
		m, l := filled(t), queue(t, 8, base)
		c := chained(t, m, l, list...)
		_, written := c.Sizes()
		row := []byte{200, 199, 198, 197, 196, 195, 194, 193, 192, 191, 190, 189, 188, 187, 186}
		for from := range written + 3 {
			for n := range written + 3 {
				scatters(t, m, c, from, row[:n])
				row[n]++
			}
		}
		for _, from := range near(written) {
			for _, n := range []uint64{0, 1, 2, 3, written, written + 1} {
				scatters(t, m, c, from, row[:n])
				row[n]++
			}
		}
	}
}

// P16.2: Scatter by hand, and what Gather tells of it.
func TestScatterByHand(t *testing.T) {
	for _, x := range []struct {
		from uint64
		data []byte
		want []byte // three bytes of the first, the one between, two of the second, one behind it
		ok   bool
	}{
		{0, []byte{1, 2, 3, 4, 5}, []byte{1, 2, 3, 9, 4, 5, 9}, true},
		{0, []byte{1, 2, 3}, []byte{1, 2, 3, 9, 9, 9, 9}, true},
		{1, []byte{1}, []byte{9, 1, 9, 9, 9, 9, 9}, true},
		{2, []byte{1, 2}, []byte{9, 9, 1, 9, 2, 9, 9}, true},
		{3, []byte{1, 2}, []byte{9, 9, 9, 9, 1, 2, 9}, true},
		{4, []byte{1}, []byte{9, 9, 9, 9, 9, 1, 9}, true},
		{0, nil, []byte{9, 9, 9, 9, 9, 9, 9}, true},
		{5, nil, []byte{9, 9, 9, 9, 9, 9, 9}, true},
		{5, []byte{}, []byte{9, 9, 9, 9, 9, 9, 9}, true},
		{6, nil, []byte{9, 9, 9, 9, 9, 9, 9}, false},
		{5, []byte{1}, []byte{9, 9, 9, 9, 9, 9, 9}, false},
		{4, []byte{1, 2}, []byte{9, 9, 9, 9, 9, 9, 9}, false},
		{0, []byte{1, 2, 3, 4, 5, 6}, []byte{9, 9, 9, 9, 9, 9, 9}, false},
		{ones, nil, []byte{9, 9, 9, 9, 9, 9, 9}, false},
		{ones, []byte{1}, []byte{9, 9, 9, 9, 9, 9, 9}, false},
		{ones - 1, []byte{1, 2, 3, 4}, []byte{9, 9, 9, 9, 9, 9, 9}, false},
		{1 << 63, []byte{1}, []byte{9, 9, 9, 9, 9, 9, 9}, false},
	} {
		m, l := made(t, small), queue(t, 4, base)
		m.Write(data, bytes.Repeat([]byte{9}, 7))
		c := chained(t, m, l, toRead(data, 7), toWrite(data, 3), toWrite(data+7, 0), toWrite(data+4, 2))
		if ok := c.Scatter(m, x.from, x.data); ok != x.ok {
			t.Errorf("Scatter(%d) of %v: %v", x.from, x.data, ok)
		}
		if got, ok := c.Gather(m, 0, 7); !ok || !bytes.Equal(got, x.want) {
			t.Errorf("behind Scatter(%d) of %v: %v, %v", x.from, x.data, got, ok)
		}
	}
}

// P16.2, P16.4: each piece of a segment is written at once, in order, and nothing else is, nor is anything read; where it is refused nothing is written.
func TestPiecesThatAreScattered(t *testing.T) {
	m, l := filled(t), queue(t, 8, base)
	c := chained(t, m, l, toRead(data+5, 9), toWrite(data, 3), toWrite(data+40, 0), toWrite(data+20, 5000))
	for _, x := range []struct {
		from   uint64
		n      int
		writes []api.Span
	}{
		{0, 5003, []api.Span{{At: data, Len: 3}, {At: data + 20, Len: 5000}}},
		{1, 3, []api.Span{{At: data + 1, Len: 2}, {At: data + 20, Len: 1}}},
		{0, 3, []api.Span{{At: data, Len: 3}}},
		{3, 1, []api.Span{{At: data + 20, Len: 1}}},
		{4, 4999, []api.Span{{At: data + 21, Len: 4999}}},
		{2, 0, nil},
		{5003, 0, nil},
		{5004, 0, nil},
		{0, 5004, nil},
		{1, 5003, nil},
		{5003, 1, nil},
		{ones, 2, nil},
	} {
		watched(t, m, nil, x.writes, func() { c.Scatter(m, x.from, make([]byte, x.n)) })
	}
}

// P16.2: segments that have bytes in common: what is written last stands there.
func TestScatterUponOneAnother(t *testing.T) {
	m, l := made(t, small), queue(t, 4, base)
	c := chained(t, m, l, toWrite(data, 4), toWrite(data+2, 4), toWrite(data+1, 2))
	if !c.Scatter(m, 0, []byte{1, 2, 3, 4, 5, 6, 7, 8, 9, 10}) {
		t.Fatalf("Scatter: false")
	}
	want := make([]byte, small)
	copy(want[page:], []byte{1, 9, 10, 6, 7, 8})
	copy(want, all(t, m)[:64])
	holds(t, m, want)
}

// P16.2: a segment in the table of descriptors, or in a table that is named: the chain is what the walk found, the next walk finds what stands there then.
func TestScatterIntoTables(t *testing.T) {
	for _, x := range []struct {
		name  string
		lay   func(*ram.RAM, api.Layout) Chain
		table uint64
	}{
		{"the queue's", func(m *ram.RAM, l api.Layout) Chain {
			return chained(t, m, l, toWrite(base, 48), toWrite(data, 8))
		}, base},
		{"one that is named", func(m *ram.RAM, l api.Layout) Chain {
			first := toWrite(place, 48)
			first.Flags |= next
			first.Next = 1
			lay(t, m, place, 0, first, toWrite(data, 8))
			named(t, m, l, tableOf(place, 3))
			return found(t, m, l, 0)
		}, place},
	} {
		m, l := made(t, small), queue(t, 4, base)
		c := x.lay(m, l)
		ahead := slices.Clone(c.Segments)
		row := all(t, m)
		mine := bytes.Repeat([]byte{0xff}, 56)
		copy(row[x.table-base:], mine[:48])
		copy(row[data-base:], mine[48:])
		if !c.Scatter(m, 0, mine) {
			t.Fatalf("%s: Scatter: false", x.name)
		}
		holds(t, m, row)
		if !slices.Equal(c.Segments, ahead) {
			t.Errorf("%s: the chain is %+v", x.name, c)
		}
		if _, e := Walk(m, l, 0, true); e == api.OK {
			t.Errorf("%s: nothing was written there", x.name)
		}
		scatters(t, m, c, 3, []byte{1, 2, 3})
	}
}

// P16.2: chains through a table are as others.
func TestBytesThroughTables(t *testing.T) {
	m, l := filled(t), queue(t, 4, base)
	list := []api.Desc{toRead(data+2000, 4), toWrite(data+2010, 5), toWrite(data+2002, 3)}
	for i := range 2 {
		list[i].Flags |= next
		list[i].Next = uint16(i + 1)
	}
	lay(t, m, place, 0, list...)
	named(t, m, l, tableOf(place, 3), toRead(data+1000, 3), toRead(data+1500, 2))
	c := found(t, m, l, 0)
	if read, written := c.Sizes(); read != 9 || written != 8 {
		t.Errorf("Sizes: %d, %d", read, written)
	}
	for from := range uint64(11) {
		for n := range uint64(11) {
			gathers(t, m, c, from, n)
			scatters(t, m, c, from, bytes.Repeat([]byte{byte(16*from + n)}, int(n)))
		}
	}
}

// P16.2: a chain without segments of a kind has no bytes of it, but nothing is there.
func TestBytesOfNone(t *testing.T) {
	m, l := filled(t), queue(t, 4, base)
	for _, c := range []Chain{chained(t, m, l, toWrite(data, 9)), chained(t, m, l, toRead(data, 0)), {}} {
		gathers(t, m, c, 0, 0)
		gathers(t, m, c, 0, 1)
		gathers(t, m, c, 1, 0)
		gathers(t, m, c, math.MaxUint64, 1)
	}
	for _, c := range []Chain{chained(t, m, l, toRead(data, 9)), chained(t, m, l, toWrite(data, 0)), {}} {
		scatters(t, m, c, 0, nil)
		scatters(t, m, c, 0, []byte{1})
		scatters(t, m, c, 1, nil)
		scatters(t, m, c, math.MaxUint64, []byte{1})
	}
}
