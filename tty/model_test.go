package tty

import (
	"bytes"
	"math"
	"reflect"
	"slices"
	"testing"

	"vireo/api"
	"vireo/fifo"
	"vireo/ram"
	"vireo/ring"
	"vireo/vmmio"
)

const (
	base    = 0x80000000
	ones    = math.MaxUint64
	page    = 4096
	size    = 40 * page   // of a test's memory
	end     = base + size // of it
	entries = 64          // of each queue
	data    = base + 2*page
	row     = 4096  // how many bytes wait at most
	shown   = 65536 // how many of those that were transmitted are kept
)

// The features' bits, as the document numbers them.
const (
	indirect = 1 << 28
	eventIdx = 1 << 29
)

// Where a queue's parts stand: each queue has a page of its own.
func table(n int) uint64 { return base + page*uint64(n) }
func avail(n int) uint64 { return table(n) + 0x800 }
func used(n int) uint64  { return table(n) + 0xc00 }

// bench: a device, and the memory that it has.
type bench struct {
	m *ram.RAM
	c *TTY
}

func memory(t *testing.T, n uint64) *ram.RAM {
	t.Helper()
	m, e := ram.New(n)
	if e != api.OK {
		t.Fatalf("ram.New(%d): %d", n, e)
	}
	return m
}

// pattern: bytes none of which is 0, each unlike those beside it and those a page further on.
func pattern(n, from int) []byte {
	list := make([]byte, n)
	for i := range list {
		list[i] = byte((i*7+i/page*31+from)%255 + 1)
	}
	return list
}

// fresh: a device as it begins, in a memory with a pattern in it.
func fresh(t *testing.T) *bench {
	t.Helper()
	m := memory(t, size)
	m.Write(base, pattern(size, 100))
	return &bench{m, New(m)}
}

// drive: writes of 4 bytes into registers, one behind the other, that ask for nothing of a queue.
func (x *bench) drive(t *testing.T, pairs ...[2]uint64) {
	t.Helper()
	for _, p := range pairs {
		if what, _, ok := x.c.Store(x.m, p[0], 4, p[1]); !ok || what == vmmio.Notify {
			t.Fatalf("Store(%#x, 4, %#x): %d, %v", p[0], p[1], what, ok)
		}
	}
}

// begin: a driver finds the device, agrees on features, and lays both queues, up to the last write, of DriverOK.
func (x *bench) begin(t *testing.T, features uint64) {
	t.Helper()
	x.drive(t,
		[2]uint64{0x70, 1}, [2]uint64{0x70, 3}, [2]uint64{0x24, 0}, [2]uint64{0x20, features}, [2]uint64{0x24, 1}, [2]uint64{0x20, 1}, [2]uint64{0x70, 11})
	x.m.Write(base, make([]byte, 2*page))
	for n := range 2 {
		x.drive(t,
			[2]uint64{0x30, uint64(n)}, [2]uint64{0x38, entries}, [2]uint64{0x80, table(n)}, [2]uint64{0x90, avail(n)}, [2]uint64{0xa0, used(n)}, [2]uint64{0x44, 1})
	}
}

// live: a device to which a driver speaks.
func live(t *testing.T, features uint64) *bench {
	t.Helper()
	x := fresh(t)
	x.begin(t, features)
	x.drive(t, [2]uint64{0x70, 15})
	if !x.c.Live() || !x.c.Queues[0].Ready || !x.c.Queues[1].Ready {
		t.Fatalf("it isn't Live: %+v", *x.c.Regs)
	}
	return x
}

func reads(at, n uint64) api.Segment  { return api.Segment{At: at, Len: n} }
func writes(at, n uint64) api.Segment { return api.Segment{At: at, Len: n, Write: true} }

// lay: descriptors of a table, from the number first on, that name pieces, one behind the other.
func lay(m *ram.RAM, at uint64, first int, list []api.Segment) {
	for i, s := range list {
		d := api.Desc{Addr: s.At, Len: uint32(s.Len)}
		if s.Write {
			d.Flags |= api.FlagWrite
		}
		if i+1 < len(list) {
			d.Flags |= api.FlagNext
			d.Next = uint16(first + i + 1)
		}
		m.Write(at+16*uint64(first+i), ring.Bytes(d))
	}
}

// head: the next chain that the driver offers in a queue begins with this descriptor.
func (x *bench) head(n, first int) {
	next, _ := x.m.Load(avail(n)+2, 2)
	x.m.Store(avail(n)+4+2*(next%entries), 2, uint64(first))
	x.m.Store(avail(n)+2, 2, next+1)
}

// offer: the driver lays a chain in a queue, from a descriptor on, and offers it.
func (x *bench) offer(n, first int, list ...api.Segment) {
	lay(x.m, table(n), first, list)
	x.head(n, first)
}

// notify: the driver tells of a queue, as the bus does it.
func (x *bench) notify(t *testing.T, n int) {
	t.Helper()
	what, of, ok := x.c.Store(x.m, 0x50, 4, uint64(n))
	if !ok || what == vmmio.Notify && of != n {
		t.Fatalf("Store of %d to QueueNotify: %d, %d, %v", n, what, of, ok)
	}
	if what == vmmio.Notify {
		x.c.Notified(of)
	}
}

// cut: the pieces in which n bytes lie, from the first one on, of all that is to be read, or written.
func cut(list []api.Segment, write bool, n uint64) []api.Span {
	var pieces []api.Span
	for _, s := range list {
		if take := min(n, s.Len); s.Write == write && take > 0 {
			pieces = append(pieces, api.Span{At: s.At, Len: take})
			n -= take
		}
	}
	return pieces
}

// got: the bytes of a chain that are to be read, or written, one behind the other.
func (x *bench) got(list []api.Segment, write bool) []byte {
	var out []byte
	for _, p := range cut(list, write, ones) {
		more, _ := x.m.Read(p.At, p.Len)
		out = append(out, more...)
	}
	return out
}

// kept is all that there is of a device: what stays, and what it comes to.
type kept struct {
	m      *ram.RAM
	regs   vmmio.Regs
	input  *fifo.Fifo
	output []byte
	lost   uint64
	writes []api.Span // where a service may write, besides in the used areas
}

func (x *bench) keeps() *kept {
	k := &kept{m: x.m.Copy(), regs: *x.c.Regs, input: x.c.Input().Copy(), output: x.c.Output(), lost: x.c.Lost()}
	k.regs.Queues = slices.Clone(k.regs.Queues)
	k.regs.Space = slices.Clone(k.regs.Space)
	return k
}

// uses: a chain of a queue, with these pieces, is told to be used, with these bytes in the first that are to be written; the driver wants to be told of it.
func (k *kept) uses(n, head int, list []api.Segment, text []byte) {
	q := &k.regs.Queues[n]
	at := used(n) + 4 + 8*uint64(q.Used%entries)
	k.m.Store(at, 4, uint64(head))
	k.m.Store(at+4, 4, uint64(len(text)))
	q.Used++
	q.Fetched++
	k.m.Store(used(n)+2, 2, uint64(q.Used))
	k.regs.Pending |= 1
	for _, p := range cut(list, true, uint64(len(text))) {
		k.m.Write(p.At, text[:p.Len])
		k.writes = append(k.writes, p)
		text = text[p.Len:]
	}
}

// receives: a chain of the queue 0 gets the first bytes that wait.
func (k *kept) receives(head, count int, list ...api.Segment) {
	k.uses(0, head, list, k.input.Take(count))
}

// shows: bytes are transmitted by a chain of the queue 1.
func (k *kept) shows(head int, text []byte, list ...api.Segment) {
	k.uses(1, head, list, nil)
	k.output = append(k.output, text...)
	if n := len(k.output); n > shown {
		k.lost += uint64(n - shown)
		k.output = k.output[:shown]
	}
}

// is: the memory, the registers, what waits, and what was transmitted, are just so.
func (x *bench) is(t *testing.T, k *kept) {
	t.Helper()
	if !ram.Same(x.m, k.m) {
		t.Fatalf("the memory isn't as it should be: %x", ram.Differ(x.m, k.m, 5))
	}
	if !reflect.DeepEqual(*x.c.Regs, k.regs) {
		t.Fatalf("the registers are %+v, not %+v", *x.c.Regs, k.regs)
	}
	if x.c.Line() != (k.regs.Pending != 0) {
		t.Fatalf("the line is high: %v", x.c.Line())
	}
	x.waits(t, k.input.Peek(row), k.input.Taken(), k.input.Lost())
	x.told(t, k.output, k.lost)
}

// waits: these bytes wait; so many were taken, and dropped.
func (x *bench) waits(t *testing.T, list []byte, taken, lost uint64) {
	t.Helper()
	f := x.c.Input()
	if got := f.Peek(row); !bytes.Equal(got, list) || f.Len() != len(list) {
		t.Fatalf("Input: %d bytes, %.40x, not %d, %.40x", f.Len(), got, len(list), list)
	}
	if f.Room() != row || f.Taken() != taken || f.Lost() != lost {
		t.Fatalf("Input: room for %d, %d taken, %d dropped, not %d, %d", f.Room(), f.Taken(), f.Lost(), taken, lost)
	}
}

// told: what was transmitted is that, and so many bytes weren't kept.
func (x *bench) told(t *testing.T, output []byte, lost uint64) {
	t.Helper()
	if got := x.c.Output(); !bytes.Equal(got, output) {
		t.Fatalf("Output: %d bytes, %.40x, not %d, %.40x", len(got), got, len(output), output)
	}
	if x.c.Lost() != lost {
		t.Fatalf("Lost: %d, not %d", x.c.Lost(), lost)
	}
}

// comesTo: what is done comes to just that, and writes nothing but what was told of, in the chains and in the used areas.
func (x *bench) comesTo(t *testing.T, k *kept, do func()) {
	t.Helper()
	log := &ram.Log{}
	x.m.Watch(log)
	do()
	x.m.Watch(nil)
	may := append(slices.Clone(k.writes), api.Span{At: used(0), Len: 6 + 8*entries}, api.Span{At: used(1), Len: 6 + 8*entries})
	for _, p := range log.Writes {
		if !slices.ContainsFunc(may, func(o api.Span) bool { return o.At <= p.At && p.At+p.Len <= o.At+o.Len }) {
			t.Fatalf("%x is written, of %x", p, may)
		}
	}
	x.is(t, k)
}

// raised: the driver reads the causes of an interrupt, which are these, and acknowledges them.
func (x *bench) raised(t *testing.T, bits uint64) {
	t.Helper()
	if w, _ := x.c.Load(0x60, 4); w != bits || x.c.Line() != (bits != 0) {
		t.Fatalf("IntStatus: %d, the line is high: %v; not %d", w, x.c.Line(), bits)
	}
	x.drive(t, [2]uint64{0x64, bits})
	if x.c.Line() {
		t.Fatalf("the line stays high")
	}
}

// wasUsed: these heads and numbers, in order, are all that was told to be used in a queue.
func (x *bench) wasUsed(t *testing.T, n int, list ...[2]uint64) {
	t.Helper()
	if count, _ := x.m.Load(used(n)+2, 2); count != uint64(len(list)) {
		t.Fatalf("queue %d: %d were told to be used, not %d", n, count, len(list))
	}
	for i, want := range list {
		id, _ := x.m.Load(used(n)+4+8*uint64(i), 4)
		count, _ := x.m.Load(used(n)+8+8*uint64(i), 4)
		if id != want[0] || count != want[1] {
			t.Fatalf("queue %d, the number %d: %d, %d, not %v", n, i, id, count, want)
		}
	}
}

func (x *bench) status(t *testing.T, want uint64) {
	t.Helper()
	if w, _ := x.c.Load(0x70, 4); w != want {
		t.Fatalf("Status: %d, not %d", w, want)
	}
}
