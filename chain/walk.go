package chain

import (
	"vireo/api"
	"vireo/ram"
	"vireo/ring"
)

// maxTable is how many bytes a table that a chain names has at most.
const maxTable = api.MaxChain * ring.DescSize

// Walk: the chain that begins with a queue's descriptor; tables of descriptors are allowed, if so told.
func Walk(m *ram.RAM, l api.Layout, head int, indirect bool) (Chain, api.Errno) {
	w := walker{memory: m}
	// A layout that may not be has any Size: the walk ends nonetheless.
	last, e := w.along(l.Desc, min(l.Size, api.MaxQueue), head)
	if e != api.OK {
		return Chain{}, e
	}
	if !has(last, api.FlagIndirect) {
		return Chain{Segments: w.segments}, api.OK
	}
	table, e := w.table(last, indirect)
	if e != api.OK {
		return Chain{}, e
	}
	last, e = w.along(table.At, int(table.Len/ring.DescSize), 0)
	if e != api.OK {
		return Chain{}, e
	}
	if has(last, api.FlagIndirect) {
		return Chain{}, api.ErrNested
	}
	return Chain{Segments: w.segments, Table: table}, api.OK
}

// walker goes along descriptors, and keeps the segments that it came by.
type walker struct {
	memory   *ram.RAM
	segments []api.Segment
}

// along: from the number i of a table on, up to the descriptor with which the way along it ends, which it tells.
func (w *walker) along(table uint64, size, i int) (api.Desc, api.Errno) {
	for seen := 0; ; seen++ {
		if i < 0 || i >= size {
			return api.Desc{}, api.ErrIndex
		}
		if seen >= size {
			return api.Desc{}, api.ErrLoop
		}
		d, ok := ring.Desc(w.memory, table, i)
		if !ok {
			return api.Desc{}, api.ErrPlace
		}
		if has(d, api.FlagIndirect) {
			return d, api.OK
		}
		if e := w.add(d); e != api.OK {
			return api.Desc{}, e
		}
		if !has(d, api.FlagNext) {
			return d, api.OK
		}
		i = int(d.Next)
	}
}

// add: a segment more.
func (w *walker) add(d api.Desc) api.Errno {
	s := api.Segment{At: d.Addr, Len: uint64(d.Len), Write: has(d, api.FlagWrite)}
	if !w.memory.Has(s.At, s.Len) {
		return api.ErrPlace
	}
	// Behind the first that is to be written all are: so the last one tells of all.
	if n := len(w.segments); n > 0 && w.segments[n-1].Write && !s.Write {
		return api.ErrOrder
	}
	w.segments = append(w.segments, s)
	return api.OK
}

// table: the piece that a descriptor with FlagIndirect names.
func (w *walker) table(d api.Desc, allowed bool) (api.Span, api.Errno) {
	piece := api.Span{At: d.Addr, Len: uint64(d.Len)}
	switch {
	case !allowed || has(d, api.FlagNext):
		return api.Span{}, api.ErrNested
	case piece.Len == 0 || piece.Len > maxTable || piece.Len%ring.DescSize != 0:
		return api.Span{}, api.ErrTable
	case !w.memory.Has(piece.At, piece.Len):
		return api.Span{}, api.ErrPlace
	}
	return piece, api.OK
}

func has(d api.Desc, flag uint16) bool { return d.Flags&flag != 0 }
