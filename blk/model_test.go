package blk

import (
	"bytes"
	"encoding/binary"
	"math"
	"math/rand"
	"reflect"
	"slices"
	"testing"

	"vireo/api"
	"vireo/chain"
	"vireo/disk"
	"vireo/ram"
	"vireo/ring"
	"vireo/vmmio"
)

const (
	base   = 0x80000000
	ones   = math.MaxUint64
	low    = math.MaxUint32
	page   = 4096
	size   = 16 * page    // of a test's memory
	end    = base + size  // of it
	table  = base         // where the descriptors of a test's chains stand: at most 64 of them
	avail  = base + 0x800 // what the driver offers
	used   = base + 0xc00 // what the device used
	begins = base + page  // where a request's beginning stands
	ends   = begins + 256 // where its end is to stand
	data   = base + 2*page
	sector = 512
	most   = 65536 * 512 // the most bytes of a request
)

// The kinds of requests, and how they end, as the document numbers them.
const (
	in      = 0
	out     = 1
	flush   = 4
	getID   = 8
	good    = 0
	bad     = 1
	unknown = 2
)

// bench: a device, the memory and the disk that it has.
type bench struct {
	m *ram.RAM
	d *disk.Disk
	b *Blk
}

func memory(t *testing.T, n uint64) *ram.RAM {
	t.Helper()
	m, e := ram.New(n)
	if e != api.OK {
		t.Fatalf("ram.New(%d): %d", n, e)
	}
	return m
}

// pattern: bytes none of which is 0, each unlike those beside it and those a sector or a page further on.
func pattern(n, from int) []byte {
	row := make([]byte, n)
	for i := range row {
		row[i] = byte((i*7+i/sector*31+from)%255 + 1)
	}
	return row
}

// over: a device over a disk with a pattern on it, in a memory with another.
func over(t *testing.T, count uint64, locked bool) *bench {
	t.Helper()
	m := memory(t, size)
	m.Write(base, pattern(size, 100))
	return with(t, m, count, locked)
}

// with: a device over a disk with a pattern on it, in a memory.
func with(t *testing.T, m *ram.RAM, count uint64, locked bool) *bench {
	t.Helper()
	d, e := disk.New(count, locked)
	if e != api.OK {
		t.Fatalf("disk.New(%d): %d", count, e)
	}
	d.Fill(pattern(int(count)*sector, 0))
	return &bench{m, d, New(m, d, "a disk")}
}

// stands: what stands in a piece of memory.
func (x *bench) stands(t *testing.T, at, n uint64) []byte {
	t.Helper()
	row, ok := x.m.Read(at, n)
	if !ok {
		t.Fatalf("Read(%#x, %d): false", at, n)
	}
	return row
}

// held: what stands on the disk.
func (x *bench) held() []byte {
	var row []byte
	for n := range x.d.Count() {
		s, _ := x.d.Sector(n)
		row = append(row, s...)
	}
	return row
}

func reads(at, n uint64) api.Segment  { return api.Segment{At: at, Len: n} }
func writes(at, n uint64) api.Segment { return api.Segment{At: at, Len: n, Write: true} }

// walked: the chain of descriptors, laid from the beginning of a memory on, that name these pieces.
func walked(t *testing.T, m *ram.RAM, list []api.Segment) chain.Chain {
	t.Helper()
	l := api.Layout{Size: 64, Desc: table, Avail: avail, Used: used}
	lay(m, table, 0, list)
	c, e := chain.Walk(m, l, 0, true)
	if e != api.OK || !slices.Equal(c.Segments, list) {
		t.Fatalf("Walk of %+v: %+v, %d", list, c, e)
	}
	return c
}

// lay: descriptors of a table, from the number first on, that name pieces, one behind the other.
func lay(m *ram.RAM, at uint64, first int, list []api.Segment) {
	for i, s := range list {
		d := api.Desc{Addr: s.At, Len: uint32(s.Len)}
		if s.Write {
			d.Flags |= api.FlagWrite
		}
		if i+1 < len(list) {
			d.Flags |= api.FlagNext
			d.Next = uint16(first + i + 1)
		}
		m.Write(at+16*uint64(first+i), ring.Bytes(d))
	}
}

// headed: the bytes of a beginning; those that don't count aren't 0.
func headed(kind uint32, at uint64) []byte {
	row := binary.LittleEndian.AppendUint32(nil, kind)
	row = append(row, 0xde, 0xad, 0xbe, 0xef)
	return binary.LittleEndian.AppendUint64(row, at)
}

// cut: the pieces in which n bytes lie, from the one number from on, of all that is to be read, or written.
func cut(list []api.Segment, write bool, from, n uint64) []api.Span {
	var pieces []api.Span
	for _, s := range list {
		if s.Write != write {
			continue
		}
		for from < s.Len && n > 0 {
			take := min(n, s.Len-from)
			pieces = append(pieces, api.Span{At: s.At + from, Len: take})
			from += take
			n -= take
		}
		from -= min(from, s.Len)
	}
	return pieces
}

// sizes: how many bytes are to be read, and to be written.
func sizes(list []api.Segment) (r, w uint64) {
	for _, s := range list {
		if s.Write {
			w += s.Len
		} else {
			r += s.Len
		}
	}
	return r, w
}

// put: bytes into pieces, one behind the other.
func put(m *ram.RAM, pieces []api.Span, row []byte) {
	for _, p := range pieces {
		m.Write(p.At, row[:p.Len])
		row = row[p.Len:]
	}
}

// got: the bytes of pieces, one behind the other.
func got(m *ram.RAM, pieces []api.Span) []byte {
	var row []byte
	for _, p := range pieces {
		more, _ := m.Read(p.At, p.Len)
		row = append(row, more...)
	}
	return row
}

// want is what comes of a request.
type want struct {
	written []byte // ahead of the end
	end     byte
	asked   uint64 // how many requests there are to the disk
	flushed uint64
	puts    []byte // what stands on the disk then, from the request's sector on
}

// fails: the disk isn't asked, and nothing but the end is written.
var fails = want{end: bad}

// refused: the disk is asked, and nothing but the end is written.
var refused = want{end: bad, asked: 1}

// kept is all that a request may change.
type kept struct {
	m                 *ram.RAM
	d                 *disk.Disk
	regs              vmmio.Regs
	requests, flushed uint64
}

func (x *bench) keeps() kept {
	k := kept{x.m.Copy(), x.d.Copy(), *x.b.Regs, x.d.Requests(), x.d.Flushes()}
	k.regs.Queues = slices.Clone(k.regs.Queues)
	k.regs.Space = slices.Clone(k.regs.Space)
	return k
}

// is: the memory, the disk and the registers are just so.
func (x *bench) is(t *testing.T, k kept) {
	t.Helper()
	if !ram.Same(x.m, k.m) {
		t.Fatalf("the memory isn't as it should be: %x", ram.Differ(x.m, k.m, 5))
	}
	if !disk.Same(x.d, k.d) {
		t.Fatalf("the disk's sectors aren't as they should be")
	}
	if x.d.Requests() != k.requests || x.d.Flushes() != k.flushed {
		t.Fatalf("%d requests, %d flushes, not %d, %d", x.d.Requests(), x.d.Flushes(), k.requests, k.flushed)
	}
	if !reflect.DeepEqual(*x.b.Regs, k.regs) {
		t.Fatalf("the registers are %+v, not %+v", *x.b.Regs, k.regs)
	}
}

// watched: what is done while a log is kept of the pieces of memory that are read and written.
func watched(m *ram.RAM, do func()) *ram.Log {
	log := &ram.Log{}
	m.Watch(log)
	do()
	m.Watch(nil)
	return log
}

// within: each of some pieces lies in one of others.
func within(t *testing.T, list, others []api.Span) {
	t.Helper()
	for _, p := range list {
		if !slices.ContainsFunc(others, func(o api.Span) bool { return o.At <= p.At && p.At+p.Len <= o.At+o.Len }) {
			t.Fatalf("%x is touched, of %x", p, others)
		}
	}
}

// serves: a request with these pieces, whose beginning is put where it is to be read, comes to just that: of the memory, the disk, the answer and the log.
func (x *bench) serves(t *testing.T, kind uint32, at uint64, list []api.Segment, w want) {
	t.Helper()
	c := walked(t, x.m, list)
	put(x.m, cut(list, false, 0, 16), headed(kind, at))
	x.comesTo(t, c, Head{kind, at}, w)
}

// comesTo: a chain whose beginning is that comes to just that.
func (x *bench) comesTo(t *testing.T, c chain.Chain, head Head, w want) {
	t.Helper()
	x.b.Log()
	_, room := sizes(c.Segments)
	pieces := append(cut(c.Segments, true, 0, uint64(len(w.written))), cut(c.Segments, true, room-1, 1)...)
	k := x.keeps()
	put(k.m, pieces, append(slices.Clone(w.written), w.end))
	k.requests += w.asked
	k.flushed += w.flushed
	if len(w.puts) > 0 {
		k.d.Fail(0)
		if e := k.d.Write(head.Sector, w.puts); e != api.OK {
			t.Fatalf("the disk that should be: %d", e)
		}
	}
	count := uint32(len(w.written) + 1)
	log := watched(x.m, func() {
		if n, ok := x.b.Use(c); n != count || !ok {
			t.Fatalf("Use of %+v, %+v: %d, %v, not %d", head, c, n, ok, count)
		}
	})
	within(t, log.Writes, pieces)
	within(t, log.Reads, cut(c.Segments, false, 0, ones))
	x.is(t, k)
	x.logs(t, Done{head, w.end, count})
}

// logs: Log tells this.
func (x *bench) logs(t *testing.T, list ...Done) {
	t.Helper()
	if got := x.b.Log(); !slices.Equal(got, list) {
		t.Fatalf("Log: %+v, not %+v", got, list)
	}
}

// lets: Use tells 0 of a chain with these pieces, whatever its beginning, and nothing happens.
func (x *bench) lets(t *testing.T, kind uint32, list []api.Segment) {
	t.Helper()
	c := walked(t, x.m, list)
	r, _ := sizes(list)
	put(x.m, cut(list, false, 0, min(r, 16)), headed(kind, 1))
	x.b.Log()
	k := x.keeps()
	log := watched(x.m, func() {
		if n, ok := x.b.Use(c); n != 0 || !ok {
			t.Fatalf("Use of %+v: %d, %v", c, n, ok)
		}
	})
	within(t, append(log.Writes, log.Reads...), nil)
	x.is(t, k)
	x.logs(t)
}

// model is a device as plainly as may be: memory and disk as rows of bytes, by numbers from 0 on.
type model struct {
	memory, disk []byte
	locked       bool
	name         string
	fail         int // how many requests are to come, up to the one that fails; 0: none does
	requests     uint64
	flushes      uint64
	log          []Done
}

// places: where the bytes of a chain lie in the memory, one behind the other.
func places(list []api.Segment, write bool) []uint64 {
	var row []uint64
	for _, s := range list {
		for i := range s.Len {
			if s.Write == write {
				row = append(row, s.At-base+i)
			}
		}
	}
	return row
}

// asks: a request to the disk; false: it fails.
func (o *model) asks() bool {
	o.requests++
	if o.fail == 0 {
		return true
	}
	o.fail--
	return o.fail > 0
}

// piece: n bytes of the disk from a sector on; nil: they aren't there.
func (o *model) piece(at uint64, n int) []byte {
	count := uint64(len(o.disk) / sector)
	if n%sector != 0 || at > count || uint64(n/sector) > count-at {
		return nil
	}
	return o.disk[at*sector:][:n]
}

// use: a chain; what is told of it.
func (o *model) use(list []api.Segment) uint32 {
	from, to := places(list, false), places(list, true)
	if len(from) < 16 || len(to) == 0 {
		return 0
	}
	row := make([]byte, len(from))
	for i, at := range from {
		row[i] = o.memory[at]
	}
	head := Head{}
	for i := 3; i >= 0; i-- {
		head.Kind = head.Kind*256 + uint32(row[i])
	}
	for i := 15; i >= 8; i-- {
		head.Sector = head.Sector*256 + uint64(row[i])
	}
	text, how := o.does(head, row[16:], len(to)-1)
	for i, c := range text {
		o.memory[to[i]] = c
	}
	o.memory[to[len(to)-1]] = how
	if len(o.log) < 4096 {
		o.log = append(o.log, Done{head, how, uint32(len(text) + 1)})
	}
	return uint32(len(text) + 1)
}

// does: what a request writes, and how it ends.
func (o *model) does(head Head, row []byte, room int) ([]byte, byte) {
	switch {
	case head.Kind == in && len(row) == 0 && room > 0 && room <= most:
		if o.asks() && o.piece(head.Sector, room) != nil {
			return bytes.Clone(o.piece(head.Sector, room)), good
		}
	case head.Kind == out && room == 0 && len(row) > 0 && len(row) <= most:
		if o.asks() && !o.locked && o.piece(head.Sector, len(row)) != nil {
			copy(o.piece(head.Sector, len(row)), row)
			return nil, good
		}
	case head.Kind == flush && len(row) == 0 && room == 0:
		if o.asks() {
			o.flushes++
			return nil, good
		}
	case head.Kind == getID && len(row) == 0 && room == 20:
		text := make([]byte, 20)
		copy(text, o.name)
		return text, good
	case !slices.Contains([]uint32{in, out, flush, getID}, head.Kind):
		return nil, unknown
	}
	return nil, bad
}

// modelOf: a device as it stands.
func modelOf(t *testing.T, x *bench, name string) *model {
	t.Helper()
	return &model{memory: x.stands(t, base, x.m.Size()), disk: x.held(), locked: x.d.Locked(), name: name}
}

// as: a device is as the model is.
func (x *bench) as(t *testing.T, o *model) {
	t.Helper()
	if row := x.stands(t, base, x.m.Size()); !bytes.Equal(row, o.memory) {
		t.Fatalf("the memory isn't as the model's")
	}
	if !bytes.Equal(x.held(), o.disk) {
		t.Fatalf("the disk isn't as the model's")
	}
	if x.d.Requests() != o.requests || x.d.Flushes() != o.flushes {
		t.Fatalf("%d requests, %d flushes, not %d, %d", x.d.Requests(), x.d.Flushes(), o.requests, o.flushes)
	}
}

// What comes by chance.

// someKind: mostly one that is any.
func someKind(chance *rand.Rand) uint32 {
	if chance.Intn(8) == 0 {
		return chance.Uint32() >> chance.Intn(32)
	}
	return []uint32{in, in, in, out, out, out, flush, getID}[chance.Intn(8)]
}

// someSector: mostly one of the disk's, or just beyond it.
func someSector(chance *rand.Rand, count uint64) uint64 {
	if chance.Intn(12) == 0 {
		return ones >> chance.Intn(64)
	}
	return uint64(chance.Intn(int(count) + 2))
}

// someBytes: how many bytes a request of a kind has besides, to be read and to be written: mostly such as may be.
func someBytes(chance *rand.Rand, kind uint32) (r, w uint64) {
	whole := uint64(sector * (1 + chance.Intn(4)))
	switch kind {
	case in:
		w = whole
	case out:
		r = whole
	case getID:
		w = 20
	}
	switch chance.Intn(10) {
	case 0:
		r += uint64(chance.Intn(3))
	case 1:
		w += uint64(chance.Intn(3))
	case 2:
		return uint64(chance.Intn(1100)), uint64(chance.Intn(1100))
	}
	return r, w
}

// someParts: n bytes in pieces, some of them empty, anywhere in the memory from a place on, perhaps one over the other.
func someParts(chance *rand.Rand, n, from uint64, write bool) []api.Segment {
	var list []api.Segment
	for n > 0 && len(list) < 20 {
		take := n
		if len(list) < 19 && chance.Intn(3) > 0 {
			take = min(n, uint64(chance.Intn([]int{2, 20, 600}[chance.Intn(3)])))
		}
		at := from + uint64(chance.Int63n(int64(end-from-take+1)))
		list = append(list, api.Segment{At: at, Len: take, Write: write})
		n -= take
	}
	return list
}

// someRequest: the pieces of a chain, mostly of a request, and the beginning that it should have.
func someRequest(chance *rand.Rand, count, from uint64) ([]api.Segment, Head) {
	head := Head{someKind(chance), someSector(chance, count)}
	r, w := someBytes(chance, head.Kind)
	r, w = r+16, w+1
	if chance.Intn(20) == 0 {
		r = uint64(chance.Intn(17))
	}
	if chance.Intn(20) == 0 {
		w = 0
	}
	list := append(someParts(chance, r, from, false), someParts(chance, w, from, true)...)
	if len(list) == 0 {
		list = []api.Segment{writes(end, 0)}
	}
	return list, head
}
