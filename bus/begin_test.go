package bus

import (
	"bytes"
	"math"
	"reflect"
	"slices"
	"testing"

	"vireo/api"
	"vireo/blk"
	"vireo/clint"
	"vireo/disk"
	"vireo/fifo"
	"vireo/plic"
	"vireo/queue"
	"vireo/ram"
	"vireo/tty"
	"vireo/vmmio"
)

// Where the parts lie, as the chapter says.
const (
	base    = 0x80000000
	clintAt = 0x02000000
	plicAt  = 0x0c000000
	blkAt   = 0x10001000
	ttyAt   = 0x10002000
)

const (
	ones   = math.MaxUint64
	page   = 4096
	size   = 40 * page   // of a test's memory
	end    = base + size // of it
	sector = 512
	count  = 4 // of a test's disk's sectors
)

// bench: a bus, and what it was made of.
type bench struct {
	m *ram.RAM
	d *disk.Disk
	b *Bus
}

func memory(t *testing.T, n uint64) *ram.RAM {
	t.Helper()
	m, e := ram.New(n)
	if e != api.OK {
		t.Fatalf("ram.New(%d): %d", n, e)
	}
	return m
}

// pattern: bytes none of which is 0, each unlike those beside it and those a page further on.
func pattern(n, from int) []byte {
	list := make([]byte, n)
	for i := range list {
		list[i] = byte((i*7+i/page*31+from)%255 + 1)
	}
	return list
}

// fresh: a bus as it begins, over a memory and a disk with patterns in them.
func fresh(t *testing.T) *bench {
	t.Helper()
	m := memory(t, size)
	m.Write(base, pattern(size, 100))
	d, e := disk.New(count, false)
	if e != api.OK {
		t.Fatalf("disk.New: %d", e)
	}
	d.Fill(pattern(count*sector, 0))
	return &bench{m, d, New(m, d, "a disk")}
}

// kept is all that there is of a bus, but the list of what the disk's device served, which asking clears.
type kept struct {
	m        *ram.RAM
	clint    clint.Clint
	plic     plic.Plic
	blk, tty vmmio.Regs
	d        *disk.Disk
	requests uint64
	flushes  uint64
	input    *fifo.Fifo
	output   []byte
	lost     uint64
}

// regsOf: a copy of registers, that shares nothing with them.
func regsOf(r *vmmio.Regs) vmmio.Regs {
	out := *r
	out.Queues = slices.Clone(out.Queues)
	out.Space = slices.Clone(out.Space)
	return out
}

func keepsOf(m *ram.RAM, c clint.Clint, p plic.Plic, b *blk.Blk, y *tty.TTY) *kept {
	d := b.Disk()
	return &kept{
		m: m.Copy(), clint: c, plic: p, blk: regsOf(b.Regs), tty: regsOf(y.Regs),
		d: d.Copy(), requests: d.Requests(), flushes: d.Flushes(),
		input: y.Input().Copy(), output: y.Output(), lost: y.Lost(),
	}
}

func (x *bench) keeps() *kept { return keepsOf(x.b.RAM, x.b.Clint, x.b.Plic, x.b.Blk, x.b.TTY) }

// is: everything is just so.
func (x *bench) is(t *testing.T, want *kept) {
	t.Helper()
	got := x.keeps()
	if !ram.Same(got.m, want.m) {
		t.Fatalf("the memory isn't as it should be: %x", ram.Differ(got.m, want.m, 5))
	}
	if got.clint != want.clint {
		t.Fatalf("the time's part is %+v, not %+v", got.clint, want.clint)
	}
	if got.plic != want.plic {
		t.Fatalf("the interrupts' part is %+v, not %+v", got.plic, want.plic)
	}
	if !reflect.DeepEqual(got.blk, want.blk) {
		t.Fatalf("the disk's registers are %+v, not %+v", got.blk, want.blk)
	}
	if !reflect.DeepEqual(got.tty, want.tty) {
		t.Fatalf("the console's registers are %+v, not %+v", got.tty, want.tty)
	}
	if !disk.Same(got.d, want.d) || got.requests != want.requests || got.flushes != want.flushes {
		t.Fatalf("the disk isn't as it should be: %d requests, %d flushes, not %d, %d", got.requests, got.flushes, want.requests, want.flushes)
	}
	if !fifo.Same(got.input, want.input) || got.input.Taken() != want.input.Taken() || got.input.Lost() != want.input.Lost() {
		t.Fatalf("%d bytes wait, %d were taken, %d lost, not %d, %d, %d",
			got.input.Len(), got.input.Taken(), got.input.Lost(), want.input.Len(), want.input.Taken(), want.input.Lost())
	}
	if !bytes.Equal(got.output, want.output) || got.lost != want.lost {
		t.Fatalf("%.60q was transmitted, %d are lost, not %.60q, %d", got.output, got.lost, want.output, want.lost)
	}
}

// put: a store of 4 bytes that may be.
func (x *bench) put(t *testing.T, at, w uint64) {
	t.Helper()
	if !x.b.Store(at, 4, w) {
		t.Fatalf("Store(%#x, 4, %#x): false", at, w)
	}
}

// holds: a load of n bytes that may be tells that.
func (x *bench) holds(t *testing.T, at uint64, n int, want uint64) {
	t.Helper()
	if w, ok := x.b.Load(at, n); w != want || !ok {
		t.Fatalf("Load(%#x, %d): %#x, %v, not %#x", at, n, w, ok, want)
	}
}

// refuses: neither a load nor a store of n bytes may be there, and nothing comes of either.
func (x *bench) refuses(t *testing.T, at uint64, n int) {
	t.Helper()
	want := x.keeps()
	if w, ok := x.b.Load(at, n); w != 0 || ok {
		t.Fatalf("Load(%#x, %d): %#x, %v", at, n, w, ok)
	}
	if x.b.Store(at, n, ones) {
		t.Fatalf("Store(%#x, %d): true", at, n)
	}
	x.is(t, want)
}

// lines: these interrupts are held up.
func (x *bench) lines(t *testing.T, want uint64) {
	t.Helper()
	if w := x.b.Lines(); w != want {
		t.Fatalf("Lines: %#x, not %#x", w, want)
	}
}

// P21.1: that memory itself, the time's part as it begins, the zero Plic, a device of that disk and name, a console.
func TestNew(t *testing.T) {
	x := fresh(t)
	want := pattern(size, 100)
	if x.b.RAM != x.m || x.b.Blk.Disk() != x.d {
		t.Errorf("it has another memory, or another disk")
	}
	if got, ok := x.m.Read(base, size); !ok || !bytes.Equal(got, want) {
		t.Errorf("the memory has changed")
	}
	if (x.b.Clint != clint.Clint{Cmp: ones}) {
		t.Errorf("the time's part is %+v", x.b.Clint)
	}
	if (x.b.Plic != plic.Plic{}) {
		t.Errorf("the interrupts' part is %+v", x.b.Plic)
	}
	regs := vmmio.Regs{ID: 2, Offered: 1<<32 | 1<<29 | 1<<28 | 1<<9, Queues: make([]queue.Queue, 1), Space: []byte{count, 0, 0, 0, 0, 0, 0, 0}}
	if got := regsOf(x.b.Blk.Regs); !reflect.DeepEqual(got, regs) {
		t.Errorf("the disk's registers are %+v", got)
	}
	if got, want := regsOf(x.b.TTY.Regs), regsOf(tty.New(x.m).Regs); !reflect.DeepEqual(got, want) || got.ID != 3 || len(got.Queues) != 2 {
		t.Errorf("the console's registers are %+v", got)
	}
	if x.b.TTY.Input().Len() != 0 || len(x.b.TTY.Output()) != 0 || len(x.b.Blk.Log()) != 0 {
		t.Errorf("something waits, was transmitted, or was served")
	}
	x.lines(t, 0)
}

// P21.1: a disk that is locked is offered as one.
func TestNewOfALockedDisk(t *testing.T) {
	d, _ := disk.New(65536, true)
	b := New(memory(t, page), d, "")
	if w, ok := b.Load(blkAt+0x10, 4); w != 1<<29|1<<28|1<<9|1<<5 || !ok {
		t.Errorf("it offers %#x", w)
	}
	if w, ok := b.Load(blkAt+0x100, 8); w != 65536 || !ok {
		t.Errorf("it has %d sectors", w)
	}
}

// The way of this layer: what memory does the bus does, by the memory's own calls.
func TestWhatMemoryDoes(t *testing.T) {
	x := fresh(t)
	if x.b.Size() != size || !x.b.Has(base, size) || x.b.Has(base, size+1) || x.b.Has(blkAt, 1) {
		t.Errorf("Size %d, Has %v, %v", x.b.Size(), x.b.Has(base, size), x.b.Has(blkAt, 1))
	}
	log := &ram.Log{}
	x.b.Watch(log)
	if !x.b.Write(base+5, []byte{1, 2, 3}) || x.b.Write(blkAt, []byte{1}) {
		t.Errorf("Write")
	}
	if got, ok := x.b.Read(base+5, 3); !ok || !bytes.Equal(got, []byte{1, 2, 3}) {
		t.Errorf("Read: %x, %v", got, ok)
	}
	x.put(t, base+8, 7)
	if piece := (api.Span{At: base + 5, Len: 3}); !reflect.DeepEqual(*log, ram.Log{Writes: []api.Span{piece, {At: base + 8, Len: 4}}, Reads: []api.Span{piece}}) {
		t.Errorf("the log is %x", *log)
	}
	if got, _ := x.m.Read(base+5, 7); !bytes.Equal(got, []byte{1, 2, 3, 7, 0, 0, 0}) {
		t.Errorf("in the memory stands %x", got)
	}
	other := x.b.Copy()
	if !ram.Same(other, x.m) || other == x.m {
		t.Errorf("Copy is another memory, or the same one")
	}
}

// The chapter's examples, and the fifth of the document.
func TestExamples(t *testing.T) {
	x := fresh(t)
	if part, place := x.b.Part(0x10001070, 4); part != BlkPart || place != 0x70 {
		t.Errorf("Part: %d, %#x", part, place)
	}
	if part, place := x.b.Part(0x10001ffe, 4); part != None || place != 0 {
		t.Errorf("Part: %d, %#x", part, place)
	}
	x.holds(t, 0x10001000, 4, 0x74726976)
	x.holds(t, 0x10001004, 4, 2)
	x.holds(t, 0x10001008, 4, 2)
	x.holds(t, 0x10002008, 4, 3)
}
