package chain

import (
	"math"
	"slices"
	"testing"

	"vireo/api"
	"vireo/ram"
)

// place is where the tests' tables lie, if nothing else is told: it is divided by nothing but 1.
const place = base + page + 7

// tableOf: a descriptor that names a table of so many.
func tableOf(at uint64, n int) api.Desc {
	return api.Desc{Addr: at, Len: uint32(16 * n), Flags: indirect}
}

// named lays a chain at a queue's head 0: some segments, then a descriptor that names a table.
func named(t *testing.T, m *ram.RAM, l api.Layout, table api.Desc, ahead ...api.Desc) {
	t.Helper()
	for i, d := range ahead {
		d.Flags |= next
		d.Next = uint16(i + 1)
		lay(t, m, l.Desc, i, d)
	}
	lay(t, m, l.Desc, len(ahead), table)
}

// P16.1: tables of every length that may be, at the head and behind some segments; with FlagWrite beside it, which doesn't count, and without; without indirect there may be none.
func TestTablesOfEveryLength(t *testing.T) {
	for n := 1; n <= 256; n++ {
		m, l, list := filled(t), queue(t, 4, base), row(n)
		for i := range n - 1 {
			list[i].Flags, list[i].Next = next, uint16(i+1)
		}
		lay(t, m, place, 0, list...)
		for _, flags := range []uint16{indirect, indirect | write, indirect | 0xfff8} {
			table := tableOf(place, n)
			table.Flags, table.Next = flags, uint16(n)
			span := api.Span{At: place, Len: 16 * uint64(n)}
			for some := range 4 {
				ahead := row(some)
				named(t, m, l, table, ahead...)
				walks(t, m, l, 0, true, Chain{Segments: segs(slices.Concat(ahead, list)...), Table: span})
				walks(t, m, l, some, true, Chain{Segments: segs(list...), Table: span})
				refuses(t, m, l, 0, false, api.ErrNested)
				refuses(t, m, l, some, false, api.ErrNested)
			}
		}
	}
}

// P16.1: lengths of tables that may not be.
func TestLengthsOfTables(t *testing.T) {
	good := map[uint32]bool{}
	for n := uint32(16); n <= 4096; n += 16 {
		good[n] = true
	}
	lengths := []uint32{8192, 16384, 65536, 65552, 1 << 28, 1 << 31, math.MaxUint32 - 15, math.MaxUint32}
	for n := range uint32(4200) {
		lengths = append(lengths, n)
	}
	for _, some := range []int{0, 2} {
		m, l := made(t, small), queue(t, 4, base)
		lay(t, m, place, 0, api.Desc{Addr: base, Len: 5})
		for _, n := range lengths {
			named(t, m, l, api.Desc{Addr: place, Len: n, Flags: indirect}, row(some)...)
			if good[n] {
				walks(t, m, l, some, true, Chain{Segments: []api.Segment{{At: base, Len: 5}}, Table: api.Span{At: place, Len: uint64(n)}})
				continue
			}
			refuses(t, m, l, 0, true, api.ErrTable)
			refuses(t, m, l, some, true, api.ErrTable)
		}
	}
}

// P16.1: tables that lie in the memory, up to its end, and such as don't.
func TestPlacesOfNamedTables(t *testing.T) {
	for _, c := range []struct {
		at uint64
		n  int
		is bool
	}{
		{base + 64, 1, true}, {base + 65, 3, true}, {end - 16, 1, true}, {end - 48, 3, true}, {end - 4096, 256, true},
		{end - 15, 1, false}, {end - 47, 3, false}, {end - 32, 3, false}, {end - 4095, 256, false},
		{end, 1, false}, {end + 1, 1, false}, {end + page, 2, false},
		{base - 1, 1, false}, {base - 16, 1, false}, {base - 16, 2, false}, {base - 4080, 256, false},
		{0, 1, false}, {base + 1<<32, 1, false},
		{ones, 1, false}, {ones - 15, 1, false}, {ones - 15, 2, false}, {ones - 14, 1, false},
	} {
		for some := range 3 {
			m, l := made(t, small), api.Layout{Size: 4, Desc: base, Avail: base + page, Used: base + page}
			named(t, m, l, tableOf(c.at, c.n), row(some)...)
			if !c.is {
				watched(t, m, spans(base, some+1), nil, func() { refuses(t, m, l, 0, true, api.ErrPlace) })
				continue
			}
			d := api.Desc{Addr: base + 9, Len: 3, Flags: write}
			lay(t, m, c.at, 0, d)
			walks(t, m, l, 0, true, Chain{Segments: segs(append(row(some), d)...), Table: api.Span{At: c.at, Len: 16 * uint64(c.n)}})
		}
	}
}

// spans: the pieces of n descriptors one behind the other.
func spans(at uint64, n int) []api.Span {
	var out []api.Span
	for i := range n {
		out = append(out, api.Span{At: at + 16*uint64(i), Len: 16})
	}
	return out
}

// P16.1: of the errors of a table the first one holds.
func TestFirstErrorOfTables(t *testing.T) {
	for _, c := range []struct {
		name    string
		d       api.Desc
		allowed bool
		want    api.Errno
	}{
		{"not allowed", api.Desc{Addr: place, Len: 16, Flags: indirect}, false, api.ErrNested},
		{"with FlagNext", api.Desc{Addr: place, Len: 16, Flags: indirect | next, Next: 1}, true, api.ErrNested},
		{"with FlagNext, to itself", api.Desc{Addr: place, Len: 16, Flags: indirect | next}, true, api.ErrNested},
		{"with FlagNext, to none", api.Desc{Addr: place, Len: 16, Flags: indirect | next, Next: 9}, true, api.ErrNested},
		{"with FlagNext and FlagWrite", api.Desc{Addr: place, Len: 16, Flags: indirect | next | write, Next: 1}, true, api.ErrNested},
		{"with FlagNext, not allowed", api.Desc{Addr: place, Len: 16, Flags: indirect | next, Next: 1}, false, api.ErrNested},
		{"not allowed, too short, beyond the memory", api.Desc{Addr: 5, Len: 8, Flags: indirect}, false, api.ErrNested},
		{"with FlagNext, too short, beyond the memory", api.Desc{Addr: 5, Len: 8, Flags: indirect | next}, true, api.ErrNested},
		{"not allowed, beyond the memory", api.Desc{Addr: 5, Len: 16, Flags: indirect}, false, api.ErrNested},
		{"too long, beyond the memory", api.Desc{Addr: end, Len: 4112, Flags: indirect}, true, api.ErrTable},
		{"of nothing, beyond the memory", api.Desc{Addr: ones, Len: 0, Flags: indirect}, true, api.ErrTable},
		{"not divided by 16, beyond the memory", api.Desc{Addr: base - 1, Len: 24, Flags: indirect}, true, api.ErrTable},
		{"beyond the memory", api.Desc{Addr: base - 1, Len: 32, Flags: indirect}, true, api.ErrPlace},
	} {
		for some := range 3 {
			m, l := made(t, small), queue(t, 4, base)
			// Were it a segment, it would be one to be read behind one to be written.
			ahead := row(some)
			for i := range ahead {
				ahead[i].Flags = write
			}
			named(t, m, l, c.d, ahead...)
			if got, e := Walk(m, l, 0, c.allowed); e != c.want || !same(got, Chain{}) {
				t.Errorf("%s: %+v, %d, not %d", c.name, got, e, c.want)
			}
		}
	}
}

// P16.1: errors along the queue's own table come ahead of any of the table that is named behind it.
func TestErrorsAheadOfTables(t *testing.T) {
	m, l := made(t, small), queue(t, 4, base)
	lay(t, m, place, 0, api.Desc{Addr: base})
	named(t, m, l, tableOf(place, 1), api.Desc{Addr: base - 1})
	refuses(t, m, l, 0, true, api.ErrPlace)
	refuses(t, m, l, 0, false, api.ErrPlace)
	named(t, m, l, tableOf(place, 1), api.Desc{Addr: base, Flags: write}, api.Desc{Addr: base})
	refuses(t, m, l, 0, true, api.ErrOrder)
	refuses(t, m, l, 0, false, api.ErrOrder)
	// A table behind as many as there may be isn't come to.
	m, l = made(t, small), queue(t, 2, base)
	lay(t, m, base, 0, api.Desc{Addr: base, Flags: next, Next: 1}, api.Desc{Addr: base, Flags: next, Next: 2}, tableOf(place, 1))
	refuses(t, m, l, 0, true, api.ErrIndex)
}

// inside lays a table of a queue of 4: two segments ahead of it, the first to be read, the second as told; then the table's descriptors.
func inside(t *testing.T, second uint16, list ...api.Desc) (*ram.RAM, api.Layout, []api.Desc) {
	t.Helper()
	m, l, ahead := made(t, small), queue(t, 4, base), row(2)
	ahead[1].Flags = second
	named(t, m, l, tableOf(place, len(list)), ahead...)
	lay(t, m, place, 0, list...)
	return m, l, ahead
}

// P16.1: what stands in a table: numbers from 0 on, below how many it has, whatever the queue's Size.
func TestNumbersInTables(t *testing.T) {
	for _, n := range []int{1, 2, 3, 4, 5, 7, 100, 255, 256} {
		for _, to := range []int{n - 1, n, n + 1, 256, 65535} {
			list := row(n)
			list[0].Flags, list[0].Next = next, uint16(to)
			m, l, ahead := inside(t, 0, list...)
			switch {
			case to >= n:
				refuses(t, m, l, 0, true, api.ErrIndex)
				refuses(t, m, l, 2, true, api.ErrIndex)
			case to == 0:
				refuses(t, m, l, 0, true, api.ErrLoop)
			default:
				table := api.Span{At: place, Len: 16 * uint64(n)}
				walks(t, m, l, 0, true, Chain{Segments: segs(append(ahead, list[0], list[to])...), Table: table})
				walks(t, m, l, 2, true, Chain{Segments: segs(list[0], list[to]), Table: table})
			}
		}
	}
}

// P16.1: chains in a table that lead to themselves; as many as it has are read there, whatever was read ahead of it.
func TestLoopsInTables(t *testing.T) {
	for _, n := range []int{1, 2, 3, 5, 64, 256} {
		for _, back := range []int{0, n / 2, n - 1} {
			list := row(n)
			for i := range list {
				list[i].Flags, list[i].Next = next|write, uint16(i+1)
			}
			list[n-1].Next = uint16(back)
			m, l, _ := inside(t, write, list...)
			watched(t, m, append(spans(base, 3), spans(place, n)...), nil, func() {
				refuses(t, m, l, 0, true, api.ErrLoop)
			})
			refuses(t, m, l, 2, true, api.ErrLoop)
		}
	}
}

// P16.1: a loop shorter than the table is gone round till as many are read as the table has.
func TestShortLoopInTable(t *testing.T) {
	list := row(6)
	list[0].Flags, list[0].Next = next, 4
	list[4].Flags, list[4].Next = next, 0
	m, l, _ := inside(t, 0, list...)
	var reads []api.Span
	for i := range 6 {
		reads = append(reads, api.Span{At: place + 64*uint64(i%2), Len: 16})
	}
	watched(t, m, append(spans(base+32, 1), reads...), nil, func() { refuses(t, m, l, 2, true, api.ErrLoop) })
}

// P16.1: segments in a table, their places and their order, which goes on from what is ahead of the table.
func TestSegmentsInTables(t *testing.T) {
	good, bad := api.Desc{Addr: base + 5, Len: 6}, api.Desc{Addr: end - 5, Len: 6}
	with := func(d api.Desc, flags, to uint16) api.Desc {
		d.Flags, d.Next = flags, to
		return d
	}
	for _, c := range []struct {
		name   string
		second uint16
		list   []api.Desc
		want   api.Errno
	}{
		{"read behind read", 0, []api.Desc{good}, api.OK},
		{"written behind read", 0, []api.Desc{with(good, write, 0)}, api.OK},
		{"written behind written", write, []api.Desc{with(good, write, 0)}, api.OK},
		{"read behind written", write, []api.Desc{good}, api.ErrOrder},
		{"read behind written, as the second", write, []api.Desc{with(good, write|next, 1), good}, api.ErrOrder},
		{"read behind written, both there", 0, []api.Desc{with(good, write|next, 1), good}, api.ErrOrder},
		{"both there", 0, []api.Desc{with(good, next, 1), with(good, write, 0)}, api.OK},
		{"beyond the memory", 0, []api.Desc{bad}, api.ErrPlace},
		{"beyond the memory, as the second", 0, []api.Desc{with(good, next, 1), bad}, api.ErrPlace},
		{"beyond the memory, and out of order", write, []api.Desc{bad}, api.ErrPlace},
		{"beyond the memory, and the next is none", 0, []api.Desc{with(bad, next, 9)}, api.ErrPlace},
		{"out of order, and the next is none", write, []api.Desc{with(good, next, 9)}, api.ErrOrder},
		{"beyond the memory, in a loop", 0, []api.Desc{with(bad, next, 0)}, api.ErrPlace},
	} {
		m, l, ahead := inside(t, c.second, c.list...)
		if c.want != api.OK {
			if got, e := Walk(m, l, 0, true); e != c.want || !same(got, Chain{}) {
				t.Errorf("%s: %+v, %d, not %d", c.name, got, e, c.want)
			}
			continue
		}
		walks(t, m, l, 0, true, Chain{Segments: segs(slices.Concat(ahead, c.list)...), Table: api.Span{At: place, Len: 16 * uint64(len(c.list))}})
	}
}

// P16.1: FlagWrite of the descriptor that names a table makes nothing of it written: what is to be read may stand there.
func TestTableWithFlagWrite(t *testing.T) {
	m, l := made(t, small), queue(t, 4, base)
	table := tableOf(place, 2)
	table.Flags |= write
	list := []api.Desc{{Addr: base, Len: 1, Flags: next, Next: 1}, {Addr: base, Len: 2, Flags: write}}
	lay(t, m, place, 0, list...)
	named(t, m, l, table, row(1)...)
	walks(t, m, l, 0, true, Chain{Segments: segs(append(row(1), list...)...), Table: api.Span{At: place, Len: 32}})
}

// P16.1: a table in a table: ErrNested, whatever else is wrong with it, behind the errors by which it isn't come to.
func TestTablesInTables(t *testing.T) {
	good := api.Desc{Addr: base, Len: 16, Flags: indirect}
	for _, c := range []struct {
		name   string
		second uint16
		list   []api.Desc
		want   api.Errno
	}{
		{"one that might be", 0, []api.Desc{good}, api.ErrNested},
		{"behind a segment", 0, []api.Desc{{Addr: base, Flags: next, Next: 1}, good}, api.ErrNested},
		{"behind what is written", write, []api.Desc{good}, api.ErrNested},
		{"with FlagNext to itself", 0, []api.Desc{{Addr: base, Len: 16, Flags: indirect | next}}, api.ErrNested},
		{"with FlagNext to none", 0, []api.Desc{{Addr: base, Len: 16, Flags: indirect | next, Next: 7}}, api.ErrNested},
		{"with FlagWrite", 0, []api.Desc{{Addr: base, Len: 16, Flags: indirect | write}}, api.ErrNested},
		{"of a wrong length", 0, []api.Desc{{Addr: base, Len: 5, Flags: indirect}}, api.ErrNested},
		{"beyond the memory", 0, []api.Desc{{Addr: 5, Len: 16, Flags: indirect}}, api.ErrNested},
		{"behind a number that is none", 0, []api.Desc{{Addr: base, Flags: next, Next: 2}, good}, api.ErrIndex},
		{"behind a loop", 0, []api.Desc{{Addr: base, Flags: next, Next: 0}, good}, api.ErrLoop},
		{"behind a segment beyond the memory", 0, []api.Desc{{Addr: 5, Flags: next, Next: 1}, good}, api.ErrPlace},
		{"behind a segment out of order", write, []api.Desc{{Addr: base, Flags: next, Next: 1}, good}, api.ErrOrder},
		{"not come to", 0, []api.Desc{{Addr: base, Next: 1}, good}, api.OK},
	} {
		m, l, _ := inside(t, c.second, c.list...)
		c2, e := Walk(m, l, 0, true)
		if e != c.want || e != api.OK && !same(c2, Chain{}) {
			t.Errorf("%s: %+v, %d, not %d", c.name, c2, e, c.want)
		}
		refuses(t, m, l, 0, false, api.ErrNested)
	}
}

// P16.1: a table may lie upon the queue's own, and is gone along once more.
func TestTableUponTheQueue(t *testing.T) {
	m, l := made(t, small), queue(t, 4, base)
	list := []api.Desc{{Addr: base, Len: 3, Flags: next, Next: 2}, tableOf(base, 4), {Addr: base, Len: 4, Flags: write}}
	lay(t, m, base, 0, list...)
	walks(t, m, l, 1, true, Chain{Segments: segs(list[0], list[2]), Table: api.Span{At: base, Len: 64}})
	lay(t, m, base, 0, tableOf(base, 1))
	refuses(t, m, l, 0, true, api.ErrNested)
	lay(t, m, base, 0, api.Desc{Addr: base, Flags: next, Next: 1})
	refuses(t, m, l, 0, true, api.ErrNested)
}

// P16.1: chains without a table tell none, however many may be, and whatever lies beside.
func TestNoTable(t *testing.T) {
	m, l := filled(t), queue(t, 2, base)
	c := chained(t, m, l, api.Desc{Addr: place, Len: 16}, api.Desc{Addr: place, Len: 16, Flags: write})
	if c.Table != (api.Span{}) {
		t.Errorf("Table: %+v", c.Table)
	}
}

// P16.1, P16.3: as many segments as there can be: 255 ahead of a table of 256.
func TestMostSegments(t *testing.T) {
	m := made(t, small)
	l := queue(t, 256, base)
	ahead, list := row(255), row(256)
	for i := range list {
		list[i].Flags = next | write
		list[i].Next = uint16(i + 1)
	}
	list[255].Flags = write
	named(t, m, l, tableOf(base+page, 256), ahead...)
	lay(t, m, base+page, 0, list...)
	c := found(t, m, l, 0)
	if len(c.Segments) != 511 || !slices.Equal(c.Segments, segs(slices.Concat(ahead, list)...)) {
		t.Errorf("%d segments", len(c.Segments))
	}
	list[255].Flags |= next
	list[255].Next = 255
	lay(t, m, base+page, 255, list[255])
	refuses(t, m, l, 0, true, api.ErrLoop)
}
