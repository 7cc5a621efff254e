package blk

import (
	"bytes"
	"math/rand"
	"slices"
	"testing"

	"vireo/api"
	"vireo/chain"
)

// plain: the pieces of a request with r bytes to be read behind the beginning, and w to be written ahead of the end.
func plain(r, w uint64) []api.Segment {
	return []api.Segment{reads(begins, 16+r), writes(data, w+1)}
}

// shapes: other pieces of that many bytes: the beginning and the end alone, and with something beside them, in a few pieces and in many.
func shapes(r, w uint64) [][]api.Segment {
	many := []api.Segment{}
	for i := range uint64(16) {
		many = append(many, reads(begins+0x80+32*i, 1))
	}
	return [][]api.Segment{
		plain(r, w),
		{reads(begins, 16), reads(begins+64, r), writes(data, w), writes(ends, 1)},
		{reads(begins, 4), reads(ends, 0), reads(begins+32, 4), reads(begins+16, 8), reads(data+8*page, r), writes(data, 0), writes(data+page, w/2), writes(data, w-w/2+1), writes(ends, 0)},
		append(slices.Clone(many), reads(data+8*page, r), writes(data+3, w/3), writes(data+5*page+1, w-w/3), writes(ends, 1)),
		{reads(begins, 15), reads(begins+32, 1+r), writes(data, w), writes(end, 0), writes(end-1, 1)},
	}
}

// P19.2: of chains with fewer than 16 bytes to be read, or with none to be written, nothing is made; of just so many it is.
func TestChainsOfNoRequest(t *testing.T) {
	x := over(t, 4, false)
	x.d.Fail(1)
	for _, kind := range []uint32{in, out, flush, getID, 99} {
		for _, list := range [][]api.Segment{
			{writes(data, 0)}, {writes(data, 1)}, {writes(data, 513)}, {reads(data, 0), writes(data, 1)},
			{reads(begins, 1), writes(data, 513)}, {reads(begins, 15), writes(data, 1)}, {reads(begins, 15), writes(data, 21)}, {reads(begins, 15), writes(data, 513)},
			{reads(begins, 7), reads(begins+32, 8), writes(data, 513)}, {reads(begins, 0), reads(begins, 15), reads(begins, 0), writes(data, 1)},
			{reads(begins, 16)}, {reads(begins, 16), writes(data, 0)}, {reads(begins, 17)}, {reads(begins, 16+512)}, {reads(begins, 16), reads(data, 512)},
			{reads(begins, 16), reads(data, 512), writes(end, 0), writes(base, 0)}, {reads(begins, 15)}, {reads(begins, 0)},
		} {
			x.lets(t, kind, list)
		}
	}
	if n, ok := x.b.Use(chain.Chain{}); n != 0 || !ok {
		t.Errorf("Use of a chain without anything: %d, %v", n, ok)
	}
	x.logs(t)
	if x.d.Requests() != 0 {
		t.Errorf("the disk was asked")
	}
	x.d.Fail(0)
	x.serves(t, flush, 0, plain(0, 0), want{asked: 1, flushed: 1})
	x.serves(t, in, 0, plain(0, 0), fails)
	x.serves(t, out, 0, plain(0, 0), fails)
	x.serves(t, getID, 0, plain(0, 0), fails)
}

// P19.2: kinds that are none, the chapter's example among them.
func TestOtherKinds(t *testing.T) {
	kinds := []uint32{2, 3, 5, 6, 7, 9, 10, 11, 13, 14, 16, 64, 99, 128, 255, 256, 257, 260, 264, 1 << 16, 1<<16 + 1, 1<<16 + 8, 1 << 24, 1<<24 + 4, 1 << 31, 1<<31 + 8, low - 7, low - 1, low}
	for _, locked := range []bool{false, true} {
		x := over(t, 4, locked)
		x.d.Fail(1)
		for _, kind := range kinds {
			for _, n := range [][2]uint64{{0, 0}, {0, 20}, {0, 512}, {512, 0}, {512, 512}, {1, 1}} {
				for _, at := range []uint64{0, 3, ones} {
					x.serves(t, kind, at, plain(n[0], n[1]), want{end: unknown})
				}
			}
		}
		x.serves(t, flush, 0, plain(0, 0), refused)
	}
	x := over(t, 4, false)
	for _, list := range shapes(0, 0) {
		x.serves(t, 99, 0, list, want{end: 2})
	}
	for _, list := range shapes(700, 300) {
		x.serves(t, 99, 0, list, want{end: 2})
	}
}

// P19.2: sectors are read that the disk has, one and several, from any one on, in pieces of any shape.
func TestIn(t *testing.T) {
	for _, locked := range []bool{false, true} {
		x := over(t, 6, locked)
		row := pattern(6*sector, 0)
		for at := range uint64(6) {
			for n := range 6 - at {
				long := (n + 1) * sector
				for _, list := range shapes(0, long) {
					x.serves(t, in, at, list, want{written: row[at*sector:][:long], asked: 1})
				}
			}
		}
	}
}

// P19.2: sectors that the disk hasn't: it is asked, but nothing is written.
func TestInBeyondTheDisk(t *testing.T) {
	x := over(t, 3, false)
	for _, list := range [][]api.Segment{shapes(0, sector)[0], shapes(0, sector)[2], shapes(0, 2*sector)[1], shapes(0, 3*sector)[3]} {
		_, w := sizes(list)
		for _, at := range []uint64{0, 1, 2, 3, 4, 6, 65535, 65536, 1<<16 + 1, low, 1 << 32, 1<<32 + 1, 1 << 55, 1<<55 + 1, 1 << 63, 1<<63 + 1, ones - 2, ones - 1, ones} {
			if at <= 3 && at*sector+w-1 <= 3*sector {
				continue
			}
			x.serves(t, in, at, list, refused)
		}
	}
	x.serves(t, in, 0, plain(0, 4*sector), refused)
	x.serves(t, in, 3, plain(0, sector), refused)
}

// P19.2: bytes that aren't whole sectors: the disk is asked; none, and too many to be read: it isn't.
func TestInOfOtherSizes(t *testing.T) {
	x := over(t, 6, false)
	for _, w := range []uint64{1, 2, 16, 20, 256, 511, 513, 1023, 1025, 1536 + 16} {
		for _, list := range shapes(0, w) {
			x.serves(t, in, 1, list, refused)
		}
	}
	for _, list := range shapes(0, 0) {
		x.serves(t, in, 1, list, fails)
	}
	for _, r := range []uint64{1, 2, 16, 511, 512, 1024} {
		for _, w := range []uint64{0, 1, 20, 511, 512, 1024} {
			for _, list := range shapes(r, w) {
				x.serves(t, in, 1, list, fails)
			}
		}
	}
}

// P19.2: bytes come to sectors that the disk has, one and several, from any one on, in pieces of any shape.
func TestOut(t *testing.T) {
	for at := range uint64(6) {
		for n := range 6 - at {
			long := (n + 1) * sector
			x := over(t, 6, false)
			for i, list := range shapes(long, 0) {
				row := pattern(int(long), int(at)+i+3)
				put(x.m, cut(list, false, 16, long), row)
				x.serves(t, out, at, list, want{asked: 1, puts: row})
			}
		}
	}
}

// P19.2: sectors that the disk hasn't, and a disk that is locked: it is asked, but no sector changes.
func TestOutBeyondTheDisk(t *testing.T) {
	for _, locked := range []bool{false, true} {
		x := over(t, 3, locked)
		for n := uint64(1); n <= 4; n++ {
			for _, at := range []uint64{0, 1, 2, 3, 4, 6, 65535, 65536, low, 1 << 32, 1<<32 + 1, 1 << 55, 1 << 63, ones - 2, ones - 1, ones} {
				if !locked && at <= 3 && at+n <= 3 {
					continue
				}
				for _, list := range shapes(n*sector, 0) {
					x.serves(t, out, at, list, refused)
				}
			}
		}
	}
}

// P19.2: bytes that aren't whole sectors: the disk is asked; none, and too many to be written: it isn't.
func TestOutOfOtherSizes(t *testing.T) {
	for _, locked := range []bool{false, true} {
		x := over(t, 6, locked)
		for _, r := range []uint64{1, 2, 16, 20, 256, 511, 513, 1023, 1025, 1536 - 16, 1536 + 16} {
			for _, list := range shapes(r, 0) {
				x.serves(t, out, 1, list, refused)
			}
		}
		for _, list := range shapes(0, 0) {
			x.serves(t, out, 1, list, fails)
		}
		for _, w := range []uint64{1, 2, 16, 511, 512, 1024} {
			for _, r := range []uint64{0, 1, 20, 511, 512, 1024} {
				for _, list := range shapes(r, w) {
					x.serves(t, out, 1, list, fails)
				}
			}
		}
	}
}

// P19.2: the most bytes that a request may have, and one more, which isn't asked of the disk.
func TestMostBytes(t *testing.T) {
	m := memory(t, 1<<26)
	x := with(t, m, 65536, false)
	list := plain(0, most)
	x.serves(t, in, 0, list, want{written: pattern(most, 0), asked: 1})
	x.serves(t, in, 1, list, refused)
	x.serves(t, in, 0, plain(0, most-sector+1), refused)
	row := pattern(most, 9)
	m.Write(data, row)
	list = []api.Segment{reads(begins, 16), reads(data, most/2), reads(data+most/2, most/2), writes(ends, 1)}
	x.serves(t, out, 0, list, want{asked: 1, puts: row})
	x.serves(t, out, 1, list, refused)
	for _, more := range []uint64{1, sector, 1 << 24} {
		x.serves(t, in, 0, plain(0, most+more), fails)
		x.serves(t, out, 0, []api.Segment{reads(begins, 16), reads(data, most-sector), reads(data, sector+more), writes(ends, 1)}, fails)
	}
}

// P19.2: sizes are compared as words: 2^32 bytes and those of a sector, or of a name, are too many.
func TestSizesAreWords(t *testing.T) {
	const part = 1 << 25
	x := with(t, memory(t, 1<<26), 2, false)
	for _, more := range []uint64{0, 20, sector} {
		for _, write := range []bool{false, true} {
			list := []api.Segment{reads(begins, 16)}
			for range 1 << 32 / part {
				list = append(list, api.Segment{At: data, Len: part, Write: write})
			}
			// So many pieces are a chain of a queue that is greater than that of the other tests.
			c := chain.Chain{Segments: append(list, api.Segment{At: data, Len: more, Write: write}, writes(ends, 1))}
			for _, kind := range []uint32{in, out, flush, getID} {
				x.m.Write(begins, headed(kind, 0))
				x.comesTo(t, c, Head{Kind: kind}, fails)
			}
		}
	}
}

// P19.2: a flush with nothing besides; with something the disk isn't asked.
func TestFlush(t *testing.T) {
	for _, locked := range []bool{false, true} {
		x := over(t, 2, locked)
		for _, at := range []uint64{0, 1, 2, ones} {
			for _, list := range shapes(0, 0) {
				x.serves(t, flush, at, list, want{asked: 1, flushed: 1})
			}
		}
		for _, n := range [][2]uint64{{1, 0}, {0, 1}, {1, 1}, {512, 0}, {0, 512}, {0, 20}, {16, 0}, {512, 512}} {
			for _, list := range shapes(n[0], n[1]) {
				x.serves(t, flush, 0, list, fails)
			}
		}
	}
}

// P19.2: the name goes where there are just 20 bytes for it; the disk isn't asked.
func TestGetID(t *testing.T) {
	text := append([]byte("a disk"), make([]byte, 14)...)
	for _, locked := range []bool{false, true} {
		x := over(t, 2, locked)
		x.d.Fail(1)
		for _, at := range []uint64{0, 1, 2, ones} {
			for _, list := range shapes(0, 20) {
				x.serves(t, getID, at, list, want{written: text})
			}
		}
		for _, n := range [][2]uint64{{0, 0}, {0, 1}, {0, 19}, {0, 21}, {0, 40}, {0, 512}, {1, 20}, {20, 20}, {512, 20}, {20, 0}, {1, 0}} {
			for _, list := range shapes(n[0], n[1]) {
				x.serves(t, getID, 0, list, fails)
			}
		}
		x.serves(t, flush, 0, plain(0, 0), refused)
	}
}

// P19.2: a fault of which the disk was told ahead: that request ends with an error, and no other; what isn't asked of the disk doesn't count.
func TestFaults(t *testing.T) {
	x := over(t, 4, false)
	row := pattern(4*sector, 0)
	read := func(w want) { t.Helper(); x.serves(t, in, 2, plain(0, sector), w) }
	write := func(w want) {
		t.Helper()
		x.m.Write(begins+16, row[:sector])
		x.serves(t, out, 0, plain(sector, 0), w)
	}
	push := func(w want) { t.Helper(); x.serves(t, flush, 0, plain(0, 0), w) }
	was, puts, flushed := want{written: row[2*sector:][:sector], asked: 1}, want{asked: 1, puts: row[:sector]}, want{asked: 1, flushed: 1}
	for _, first := range []func(want){read, write, push} {
		x.d.Fail(1)
		first(refused)
		read(was)
		write(puts)
		push(flushed)
	}
	x.d.Fail(3)
	read(was)
	x.serves(t, getID, 0, plain(0, 19), fails)
	x.serves(t, in, 0, plain(1, sector), fails)
	x.serves(t, out, 0, plain(sector, 1), fails)
	x.serves(t, flush, 0, plain(0, 1), fails)
	x.serves(t, 77, 0, plain(0, 1), want{end: unknown})
	x.lets(t, in, []api.Segment{reads(begins, 16)})
	push(flushed)
	write(refused)
	write(puts)
	x.d.Fail(2)
	x.serves(t, in, 4, plain(0, sector), refused)
	x.serves(t, in, 0, plain(0, sector), refused)
	read(was)
}

// P19.2: where pieces lie one over the other, the beginning is what stood there ahead of all, the bytes come in order, and the end is what stands there last.
func TestPiecesThatOverlap(t *testing.T) {
	x := over(t, 4, false)
	row := pattern(4*sector, 0)
	// The sector comes over the beginning.
	x.serves(t, in, 1, []api.Segment{reads(begins, 16), writes(begins, sector), writes(ends+sector, 1)}, want{written: row[sector:][:sector], asked: 1})
	// The end comes over the sector, at its first byte, in its middle, at its last.
	for _, i := range []uint64{0, 7, sector - 1} {
		x.serves(t, in, 1, []api.Segment{reads(begins, 16), writes(data, sector), writes(data+i, 1)}, want{written: row[sector:][:sector], asked: 1})
	}
	// The second sector comes over the first.
	x.serves(t, in, 1, []api.Segment{reads(begins, 16), writes(data, sector), writes(data+10, sector), writes(ends, 1)}, want{written: row[sector:][:2*sector], asked: 1})
	// The beginning is the end, too.
	x.serves(t, flush, 0, []api.Segment{reads(begins, 16), writes(begins, 1)}, want{asked: 1, flushed: 1})
	// The beginning goes to the disk, too.
	list := []api.Segment{reads(begins, 16), reads(begins, sector), writes(begins, 1)}
	walked(t, x.m, list)
	x.m.Write(begins, headed(out, 3))
	x.serves(t, out, 3, list, want{asked: 1, puts: bytes.Clone(x.stands(t, begins, sector))})
}

// P19.2: requests of chains that a table names, as well.
func TestTables(t *testing.T) {
	x := over(t, 4, false)
	l := api.Layout{Size: 4, Desc: table, Avail: avail, Used: used}
	x.m.Write(table+16, []byte{0, 0x40, 0, 0x80, 0, 0, 0, 0, 48, 0, 0, 0, 4, 0, 0, 0})
	lay(x.m, base+0x4000, 0, []api.Segment{reads(begins, 16), writes(data, sector), writes(ends, 1)})
	x.m.Write(begins, headed(in, 3))
	c, e := chain.Walk(x.m, l, 1, true)
	if e != api.OK || c.Table.Len != 48 {
		t.Fatalf("Walk: %+v, %d", c, e)
	}
	x.comesTo(t, c, Head{in, 3}, want{written: pattern(4*sector, 0)[3*sector:], asked: 1})
}

// P19.2: chains by chance, held against the model.
func TestUseAgainstModel(t *testing.T) {
	chance := rand.New(rand.NewSource(1))
	ended := map[byte]int{}
	for range 60 {
		count := uint64(1 + chance.Intn(5))
		x := over(t, count, chance.Intn(3) == 0)
		o := modelOf(t, x, "a disk")
		for range 60 {
			list, head := someRequest(chance, count, data)
			c := walked(t, x.m, list)
			r, _ := sizes(list)
			put(x.m, cut(list, false, 0, min(r, 16)), headed(head.Kind, head.Sector))
			o.memory = x.stands(t, base, size)
			if chance.Intn(6) == 0 {
				o.fail = chance.Intn(4)
				x.d.Fail(uint64(o.fail))
			}
			before := x.held()
			want := o.use(list)
			if n, ok := x.b.Use(c); n != want || !ok {
				t.Fatalf("Use of %+v: %d, %v, not %d", list, n, ok, want)
			}
			x.as(t, o)
			log := x.b.Log()
			if !slices.Equal(log, o.log) {
				t.Fatalf("Log: %+v, not %+v", log, o.log)
			}
			for _, d := range log {
				ended[d.Status]++
				// P19.3
				if d.Status != good && !bytes.Equal(x.held(), before) {
					t.Fatalf("%+v has changed the disk", d)
				}
			}
			o.log = nil
		}
	}
	if ended[good] < 500 || ended[bad] < 500 || ended[unknown] < 100 {
		t.Errorf("ends: %v", ended)
	}
}
