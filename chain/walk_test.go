package chain

import (
	"math"
	"slices"
	"testing"

	"vireo/api"
	"vireo/ring"
)

// P16.1: the chapter's example, of queues of every size.
func TestExample(t *testing.T) {
	for _, size := range sizes {
		m, l := made(t, small), queue(t, size, base)
		lay(t, m, base, 0, api.Desc{Addr: base, Flags: next, Next: 0})
		refuses(t, m, l, 0, false, api.ErrLoop)
		refuses(t, m, l, 0, true, api.ErrLoop)
	}
}

// row: descriptors of pieces that are all unlike, without flags.
func row(n int) []api.Desc {
	out := make([]api.Desc, n)
	for i := range out {
		out[i] = api.Desc{Addr: base + 2*page + 3*uint64(i), Len: uint32(i + 1)}
	}
	return out
}

// P16.1: chains of one descriptor, of every head, to be read and to be written, at places of all kinds.
func TestChainsOfOne(t *testing.T) {
	for _, size := range sizes {
		for _, at := range []uint64{base, base + 16, base + page - 16, base + 2*page} {
			m, l, list := filled(t), queue(t, size, at), row(size)
			for i := range list {
				// Without FlagNext no Next counts, not even one that would be none.
				list[i].Flags, list[i].Next = uint16(write*(i%2)), uint16(i*257)
			}
			lay(t, m, at, 0, list...)
			for i, d := range list {
				walks(t, m, l, i, i%3 == 0, Chain{Segments: segs(d)})
			}
		}
	}
}

// P16.1: heads that are none, though some would be if they were cut to fewer bits, and though descriptors may stand there.
func TestHeadsThatAreNone(t *testing.T) {
	for _, size := range sizes {
		m, l := made(t, small), queue(t, size, base+page)
		for at := uint64(base); at < base+3*page; at += 16 {
			lay(t, m, at, 0, api.Desc{Addr: base, Len: 1})
		}
		walks(t, m, l, 0, false, Chain{Segments: []api.Segment{{At: base, Len: 1}}})
		walks(t, m, l, size-1, false, Chain{Segments: []api.Segment{{At: base, Len: 1}}})
		for _, head := range append([]int{size, size + 1, 2 * size, 65536 + size, 65536 - size}, strange...) {
			watched(t, m, nil, nil, func() {
				refuses(t, m, l, head, false, api.ErrIndex)
				refuses(t, m, l, head, true, api.ErrIndex)
			})
		}
	}
}

// order: all numbers below n, which is a power of 2, in an order that isn't their own, from one on.
func order(n, first int) []int {
	out := make([]int, n)
	for i := range out {
		out[i] = (first + i*5) % n
	}
	return out
}

// P16.1: chains of every length up to Size, that jump about in the table; all to be read, all to be written, or some of both; what is read of the memory are the descriptors alone, each once, in order.
func TestChainsOfEveryLength(t *testing.T) {
	for _, size := range sizes {
		for n := 1; n <= size; n += max(1, size/16-1) {
			for _, read := range []int{0, 1, n / 2, n - 1, n} {
				chainOf(t, size, n, read)
			}
		}
		chainOf(t, size, size, size/2)
	}
}

// chainOf walks along n descriptors of a queue, the first of which are to be read.
func chainOf(t *testing.T, size, n, read int) {
	t.Helper()
	m, l, list := filled(t), queue(t, size, base+16), row(n)
	way := order(size, size/2)
	var reads []api.Span
	for i := range list {
		if i >= read {
			list[i].Flags |= write
		}
		if i < n-1 {
			list[i].Flags |= next
			list[i].Next = uint16(way[i+1])
		}
		lay(t, m, l.Desc, way[i], list[i])
		reads = append(reads, api.Span{At: l.Desc + 16*uint64(way[i]), Len: 16})
	}
	watched(t, m, reads, nil, func() {
		walks(t, m, l, way[0], n%2 == 0, Chain{Segments: segs(list...)})
	})
}

// P16.1: a Next that isn't below Size, at the head, behind some, and behind as many as there may be (where ErrIndex comes ahead of ErrLoop).
func TestNextThatIsNone(t *testing.T) {
	for _, size := range sizes {
		for _, to := range []int{size, size + 1, 2 * size, 255 + size, 256, 32768, 65535} {
			if to < size {
				continue
			}
			for _, n := range []int{1, 2, size/2 + 1, size} {
				if n > size {
					continue
				}
				m, l, list := made(t, small), queue(t, size, base), row(n)
				for i := range list {
					list[i].Flags, list[i].Next = next, uint16(i+1)
				}
				list[n-1].Next = uint16(to)
				lay(t, m, base, 0, list...)
				refuses(t, m, l, 0, true, api.ErrIndex)
				refuses(t, m, l, n-1, false, api.ErrIndex)
				list[n-1].Flags = 0
				lay(t, m, base, 0, list...)
				walks(t, m, l, 0, true, Chain{Segments: segs(list...)})
			}
		}
	}
}

// P16.1: chains that lead to themselves: at once, behind some descriptors, back to the head; Size descriptors are read, no more.
func TestLoops(t *testing.T) {
	for _, size := range sizes {
		for n := 1; n <= size; n += max(1, size/8-1) {
			for _, back := range []int{0, n / 2, n - 1} {
				m, l, list := made(t, small), queue(t, size, base), row(n)
				for i := range list {
					list[i].Flags, list[i].Next = next|write, uint16(i+1)
				}
				list[n-1].Next = uint16(back)
				lay(t, m, base, 0, list...)
				var reads []api.Span
				at := 0
				for range size {
					reads = append(reads, api.Span{At: base + 16*uint64(at), Len: 16})
					at = int(list[at].Next)
				}
				watched(t, m, reads, nil, func() { refuses(t, m, l, 0, false, api.ErrLoop) })
				refuses(t, m, l, n-1, true, api.ErrLoop)
			}
		}
	}
}

// P16.1: where bytes lie: Len bytes at Addr are a segment, or ErrPlace.
func TestPlacesOfSegments(t *testing.T) {
	for _, c := range []struct {
		at uint64
		n  uint32
		is bool
	}{
		{base, 1, true},
		{base, small, true},
		{base + 1, small - 1, true},
		{base + page - 3, 6, true},
		{end - 1, 1, true},
		{end - 77, 77, true},
		{base, 0, true},
		{base + 5, 0, true},
		{end - 1, 0, true},
		{end, 0, true},

		{base, small + 1, false},
		{base + 1, small, false},
		{end - 1, 2, false},
		{end - 77, 78, false},
		{end, 1, false},
		{end + 1, 0, false},
		{end + page, 16, false},
		{base - 1, 0, false},
		{base - 1, 1, false},
		{base - 1, 2, false},
		{base - 16, 16, false},
		{base - 16, 17, false},
		{base - 1, small + 2, false},
		{0, 0, false},
		{0, 1, false},
		{0, math.MaxUint32, false},
		{0x10001000, 4, false},
		{base, math.MaxUint32, false},
		{base, 1 << 31, false},
		{base + 1<<32, 1, false},
		{ones, 0, false},
		{ones, 1, false},
		{ones, 2, false},
		{ones - 15, 16, false},
		{ones - 15, 32, false},
		{ones - math.MaxUint32 + 1, math.MaxUint32, false},
		{ones - 0x7fffffff, math.MaxUint32, false}, // runs past the greatest address, and ends in the memory
		{ones - 0xf, 0x80000010, false},
		{ones - 0xf, 0x80000020, false},
	} {
		for _, flags := range []uint16{0, write} {
			d := api.Desc{Addr: c.at, Len: c.n, Flags: flags}
			m, l := filled(t), queue(t, 4, base)
			lay(t, m, base, 0, d)
			ahead := api.Desc{Addr: base, Len: 1, Flags: next, Next: 0}
			lay(t, m, base, 1, ahead)
			if c.is {
				walks(t, m, l, 0, false, Chain{Segments: segs(d)})
				walks(t, m, l, 1, true, Chain{Segments: segs(ahead, d)})
				continue
			}
			refuses(t, m, l, 0, false, api.ErrPlace)
			refuses(t, m, l, 1, true, api.ErrPlace)
		}
	}
}

// P16.1: memories of other sizes have other ends.
func TestPlacesInOtherMemories(t *testing.T) {
	for _, size := range []uint64{api.MinRAM, 2 * page, 1 << 20, api.MaxRAM} {
		m := made(t, size)
		l := api.Layout{Size: 2, Desc: base, Avail: base + 0x100, Used: base + 0x200}
		for _, c := range []struct {
			at, n uint64
			is    bool
		}{
			{base, size, true}, {base + size - 1, 1, true}, {base + size, 0, true},
			{base, size + 1, false}, {base + size - 1, 2, false}, {base + size + 1, 0, false}, {base + size, 1, false},
		} {
			d := api.Desc{Addr: c.at, Len: uint32(c.n)}
			lay(t, m, base, 1, d)
			if c.is {
				walks(t, m, l, 1, false, Chain{Segments: segs(d)})
			} else {
				refuses(t, m, l, 1, false, api.ErrPlace)
			}
		}
	}
}

// P16.1: of all rows of up to eight segments, those alone may be in which none to be read is behind one to be written; it doesn't matter whether they have bytes.
func TestOrder(t *testing.T) {
	for n := 1; n <= 8; n++ {
		for bits := range 1 << n {
			for _, blank := range []bool{false, true} {
				m, l, list := made(t, small), queue(t, 8, base), row(n)
				may := true
				for i := range list {
					if blank {
						list[i].Len = 0
					}
					list[i].Flags = uint16(write * (bits >> i & 1))
					may = may && (i == 0 || list[i].Flags >= list[i-1].Flags)
				}
				for i := range n - 1 {
					list[i].Flags |= next
					list[i].Next = uint16(i + 1)
				}
				lay(t, m, base, 0, list...)
				if may {
					walks(t, m, l, 0, false, Chain{Segments: segs(list...)})
				} else {
					refuses(t, m, l, 0, false, api.ErrOrder)
				}
			}
		}
	}
}

// P16.1: where more than one error would hold, which comes first.
func TestFirstErrorOfSegments(t *testing.T) {
	const bad = base - 1
	for _, c := range []struct {
		name string
		list []api.Desc
		want api.Errno
	}{
		{"place ahead of order", []api.Desc{{Addr: base, Flags: write | next, Next: 1}, {Addr: bad, Len: 1}}, api.ErrPlace},
		{"place ahead of the next one's number", []api.Desc{{Addr: bad, Flags: next, Next: 9}}, api.ErrPlace},
		{"place ahead of a loop", []api.Desc{{Addr: bad, Flags: next, Next: 0}}, api.ErrPlace},
		{"order ahead of the next one's number", []api.Desc{{Addr: base, Flags: write | next, Next: 1}, {Addr: base, Flags: next, Next: 2}}, api.ErrOrder},
		{"order, at the head come to anew, ahead of a loop", []api.Desc{{Addr: base, Flags: next, Next: 1}, {Addr: base, Flags: write | next, Next: 0}}, api.ErrLoop},
		{"the number ahead of a loop", []api.Desc{{Addr: base, Flags: next, Next: 1}, {Addr: base, Flags: next, Next: 2}}, api.ErrIndex},
		{"a place at one ahead", []api.Desc{{Addr: bad, Flags: write | next, Next: 1}, {Addr: base}}, api.ErrPlace},
	} {
		m, l := made(t, small), queue(t, 2, base)
		lay(t, m, base, 0, c.list...)
		if got, e := Walk(m, l, 0, true); e != c.want || !same(got, Chain{}) {
			t.Errorf("%s: %+v, %d, not %d", c.name, got, e, c.want)
		}
	}
	// In a queue of more the walk comes to the head once more ahead of a loop: there it is read behind what is written.
	m, l := made(t, small), queue(t, 4, base)
	lay(t, m, base, 0, api.Desc{Addr: base, Flags: next, Next: 1}, api.Desc{Addr: base, Flags: write | next, Next: 0})
	refuses(t, m, l, 0, true, api.ErrOrder)
}

// P16.1: flags beside the three don't count.
func TestOtherFlags(t *testing.T) {
	m, l := made(t, small), queue(t, 4, base)
	last := api.Desc{Addr: base + 9, Len: 9, Flags: 0xfff8 | write, Next: 77}
	for flags := uint16(0); flags < 0x8000; flags += 8 {
		first := api.Desc{Addr: base + 3, Len: 5, Flags: flags<<1 | next, Next: 3}
		lay(t, m, base, 2, first, last)
		walks(t, m, l, 2, false, Chain{Segments: segs(first, last)})
		only := api.Desc{Addr: base + 3, Len: 5, Flags: flags<<1 | flags, Next: 3}
		lay(t, m, base, 1, only)
		walks(t, m, l, 1, true, Chain{Segments: segs(only)})
	}
}

// P16.1: descriptors are those of the layout's table, not of another one, wherever that lies.
func TestPlacesOfTables(t *testing.T) {
	for _, size := range sizes {
		m, list := filled(t), row(size)
		places := []uint64{base, base + 16, base + page - 16, end - 16*uint64(size)}
		for k, at := range places {
			for i := range list {
				list[i].Len = uint32(7*i + k)
			}
			l := api.Layout{Size: size, Desc: at, Avail: base + page, Used: base + page}
			if e := ring.Check(m, l); e != api.OK {
				t.Fatalf("Check of %+v: %d", l, e)
			}
			lay(t, m, at, 0, list...)
			for i := range list {
				walks(t, m, l, i, false, Chain{Segments: segs(list[i])})
			}
		}
	}
}

// P16.1: what stands in the memory now counts, and segments may lie upon the table and upon one another.
func TestSegmentsUponTheTable(t *testing.T) {
	m, l := made(t, small), queue(t, 2, base)
	list := []api.Desc{{Addr: base, Len: 32, Flags: next, Next: 1}, {Addr: base + 8, Len: 32, Flags: write}}
	lay(t, m, base, 0, list...)
	walks(t, m, l, 0, false, Chain{Segments: segs(list...)})
	list[1].Addr = base - 1
	lay(t, m, base, 0, list...)
	refuses(t, m, l, 0, false, api.ErrPlace)
	list[0].Flags = 0
	lay(t, m, base, 0, list...)
	walks(t, m, l, 0, false, Chain{Segments: segs(list[0])})
}

// P16.1: the greatest queue, all of whose descriptors are one chain.
func TestGreatestQueue(t *testing.T) {
	m, l := made(t, small), queue(t, 256, base)
	var list []api.Desc
	for range 256 {
		list = append(list, api.Desc{Addr: base, Len: 1})
	}
	c := chained(t, m, l, list...)
	if len(c.Segments) != 256 || !slices.Equal(c.Segments, segs(list...)) || c.Table != (api.Span{}) {
		t.Errorf("%d segments, %+v", len(c.Segments), c.Table)
	}
}
