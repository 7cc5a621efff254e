package bus

import (
	"bytes"
	"testing"

	"vireo/api"
)

// The queues that a driver lays: the disk's, and both of the console. Each has a page of its own, and 64 entries.
const (
	diskQueue = 0
	receive   = 1
	transmit  = 2
	entries   = 64
)

// The features' bits, and the places of registers, as the document numbers them.
const (
	indirect = 1 << 28
	eventIdx = 1 << 29

	intStatus = 0x60
	intAck    = 0x64
	status    = 0x70
	notify    = 0x50
)

// Where a driver keeps a request's beginning, its end, and bytes.
const (
	begins = base + 4*page
	ends   = base + 5*page
	data   = base + 6*page
)

// Where a queue's parts stand.
func table(q int) uint64 { return base + page*uint64(q) }
func avail(q int) uint64 { return table(q) + 0x800 }
func used(q int) uint64  { return table(q) + 0xc00 }

// deviceOf: where the device of a queue lies, and which of its queues this is.
func deviceOf(q int) (uint64, uint64) {
	if q == diskQueue {
		return blkAt, 0
	}
	return ttyAt, uint64(q - receive)
}

// drive: writes of 4 bytes into a device's registers, one behind the other.
func (x *bench) drive(t *testing.T, device uint64, pairs ...[2]uint64) {
	t.Helper()
	for _, p := range pairs {
		x.put(t, device+p[0], p[1])
	}
}

// begin: a driver finds a device, agrees on features, and lays its queues, up to the last write, of DriverOK.
func (x *bench) begin(t *testing.T, device, features uint64) {
	t.Helper()
	x.drive(t, device,
		[2]uint64{status, 1}, [2]uint64{status, 3}, [2]uint64{0x24, 0}, [2]uint64{0x20, features}, [2]uint64{0x24, 1}, [2]uint64{0x20, 1}, [2]uint64{status, 11})
	for _, q := range []int{diskQueue, receive, transmit} {
		of, number := deviceOf(q)
		if of != device {
			continue
		}
		for at := table(q); at < table(q)+page; at += 8 {
			x.b.Store(at, 8, 0)
		}
		x.drive(t, device,
			[2]uint64{0x30, number}, [2]uint64{0x38, entries}, [2]uint64{0x80, table(q)}, [2]uint64{0x90, avail(q)}, [2]uint64{0xa0, used(q)}, [2]uint64{0x44, 1})
	}
}

// live: a bus to both devices of which a driver speaks.
func live(t *testing.T, features uint64) *bench {
	t.Helper()
	x := fresh(t)
	for _, device := range []uint64{blkAt, ttyAt} {
		x.begin(t, device, features)
		x.drive(t, device, [2]uint64{status, 15})
		x.holds(t, device+status, 4, 15)
	}
	if !x.b.Blk.Live() || !x.b.TTY.Live() {
		t.Fatalf("a device isn't Live")
	}
	return x
}

// lets: sources have priorities of their number, and a context lets them.
func (x *bench) lets(t *testing.T, context uint64, sources ...uint64) {
	t.Helper()
	bits := uint64(0)
	for _, n := range sources {
		x.put(t, plicAt+4*n, n)
		bits |= 1 << n
	}
	x.put(t, plicAt+0x2000+0x80*context, bits)
}

// claim: where a context claims, and is done.
func claim(context uint64) uint64 { return plicAt + 0x200004 + 0x1000*context }

func reads(at, n uint64) api.Segment  { return api.Segment{At: at, Len: n} }
func writes(at, n uint64) api.Segment { return api.Segment{At: at, Len: n, Write: true} }

// desc: a descriptor is laid in a table.
func (x *bench) desc(at uint64, n int, d api.Desc) {
	at += 16 * uint64(n)
	x.b.Store(at, 8, d.Addr)
	x.b.Store(at+8, 4, uint64(d.Len))
	x.b.Store(at+12, 2, uint64(d.Flags))
	x.b.Store(at+14, 2, uint64(d.Next))
}

// head: the next chain that the driver offers in a queue begins with this descriptor.
func (x *bench) head(q, first int) {
	next, _ := x.b.Load(avail(q)+2, 2)
	x.b.Store(avail(q)+4+2*(next%entries), 2, uint64(first))
	x.b.Store(avail(q)+2, 2, next+1)
}

// offer: the driver lays a chain in a queue, from a descriptor on, and offers it.
func (x *bench) offer(q, first int, list ...api.Segment) {
	for i, s := range list {
		d := api.Desc{Addr: s.At, Len: uint32(s.Len)}
		if s.Write {
			d.Flags |= 2
		}
		if i+1 < len(list) {
			d.Flags |= 1
			d.Next = uint16(first + i + 1)
		}
		x.desc(table(q), first+i, d)
	}
	x.head(q, first)
}

// loop: the driver offers a chain that leads to itself.
func (x *bench) loop(q, n int) {
	x.desc(table(q), n, api.Desc{Addr: data, Len: 4, Flags: 1, Next: uint16(n)})
	x.head(q, n)
}

// request: the beginning of a request to the disk is laid.
func (x *bench) request(kind, sector uint64) {
	x.b.Store(begins, 8, kind)
	x.b.Store(begins+8, 8, sector)
}

// tells: the driver tells of a queue.
func (x *bench) tells(t *testing.T, q int) {
	t.Helper()
	device, number := deviceOf(q)
	x.put(t, device+notify, number)
}

// wasUsed: these heads and numbers, in order, are all that was told to be used in a queue.
func (x *bench) wasUsed(t *testing.T, q int, list ...[2]uint64) {
	t.Helper()
	x.holds(t, used(q)+2, 2, uint64(len(list)))
	for i, want := range list {
		x.holds(t, used(q)+4+8*uint64(i), 4, want[0])
		x.holds(t, used(q)+8+8*uint64(i), 4, want[1])
	}
}

// stands: these bytes stand in the memory, each asked by a load.
func (x *bench) stands(t *testing.T, at uint64, want []byte) {
	t.Helper()
	got := make([]byte, len(want))
	for i := range got {
		w, _ := x.b.Load(at+uint64(i), 1)
		got[i] = byte(w)
	}
	if !bytes.Equal(got, want) {
		t.Fatalf("at %#x stands %.60x, not %.60x", at, got, want)
	}
}

// wired: the sources whose lines are high, and those that wait, are these bits.
func (x *bench) wired(t *testing.T, high, waits uint32) {
	t.Helper()
	if p := x.b.Plic; p.High != high || p.Waits != waits {
		t.Fatalf("the sources whose lines are high are %b, not %b; those that wait %b, not %b", p.High, high, p.Waits, waits)
	}
}
