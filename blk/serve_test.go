package blk

import (
	"bytes"
	"math"
	"testing"

	"vireo/api"
	"vireo/ram"
	"vireo/vmmio"
)

// The features' bits, as the document numbers them.
const (
	indirect = 1 << 28
	eventIdx = 1 << 29
)

// drive: writes of 4 bytes into registers, one behind the other, that ask for nothing of a queue.
func (x *bench) drive(t *testing.T, pairs ...[2]uint64) {
	t.Helper()
	for _, p := range pairs {
		if what, _, ok := x.b.Store(x.m, p[0], 4, p[1]); !ok || what == vmmio.Notify {
			t.Fatalf("Store(%#x, 4, %#x): %d, %v", p[0], p[1], what, ok)
		}
	}
}

// begin: a driver finds the device, agrees on features, and lays the queue of 64 entries, up to the last write, of DriverOK.
func (x *bench) begin(t *testing.T, features uint64) {
	t.Helper()
	x.drive(t,
		[2]uint64{0x70, 1}, [2]uint64{0x70, 3}, [2]uint64{0x24, 0}, [2]uint64{0x20, features}, [2]uint64{0x24, 1}, [2]uint64{0x20, 1}, [2]uint64{0x70, 11},
		[2]uint64{0x30, 0}, [2]uint64{0x38, 64}, [2]uint64{0x80, table}, [2]uint64{0x90, avail}, [2]uint64{0xa0, used})
	x.m.Write(base, make([]byte, page))
	x.drive(t, [2]uint64{0x44, 1})
}

// live: a device to which a driver speaks.
func live(t *testing.T, count uint64, features uint64) *bench {
	t.Helper()
	x := over(t, count, false)
	x.begin(t, features)
	x.drive(t, [2]uint64{0x70, 15})
	if !x.b.Live() || !x.b.Queues[0].Ready {
		t.Fatalf("it isn't Live: %+v", *x.b.Regs)
	}
	return x
}

// head: the next chain that the driver offers begins with this descriptor.
func (x *bench) head(first int) {
	n, _ := x.m.Load(avail+2, 2)
	x.m.Store(avail+4+2*(n%64), 2, uint64(first))
	x.m.Store(avail+2, 2, n+1)
}

// offer: the driver lays a chain, from a descriptor on, and offers it.
func (x *bench) offer(first int, list []api.Segment) {
	lay(x.m, table, first, list)
	x.head(first)
}

// notify: the driver tells of the queue, as the bus does it.
func (x *bench) notify(t *testing.T) {
	t.Helper()
	what, n, ok := x.b.Store(x.m, 0x50, 4, 0)
	if !ok || n != 0 {
		t.Fatalf("Store to QueueNotify: %d, %d, %v", what, n, ok)
	}
	if what == vmmio.Notify {
		x.b.Notified(n)
	}
}

// wasUsed: these heads and numbers, in order, are all that was told to be used.
func (x *bench) wasUsed(t *testing.T, list ...[2]uint64) {
	t.Helper()
	if n, _ := x.m.Load(used+2, 2); n != uint64(len(list)) {
		t.Fatalf("%d were told to be used, not %d", n, len(list))
	}
	for i, want := range list {
		id, _ := x.m.Load(used+4+8*uint64(i), 4)
		count, _ := x.m.Load(used+8+8*uint64(i), 4)
		if id != want[0] || count != want[1] {
			t.Fatalf("the number %d: %d, %d, not %v", i, id, count, want)
		}
	}
}

// raised: the interrupt's causes are these, and its line is high, if there are any; they are acknowledged.
func (x *bench) raised(t *testing.T, bits uint64) {
	t.Helper()
	if w, _ := x.b.Load(0x60, 4); w != bits || x.b.Line() != (bits != 0) {
		t.Fatalf("IntStatus: %d, the line is high: %v; not %d", w, x.b.Line(), bits)
	}
	x.drive(t, [2]uint64{0x64, bits})
	if x.b.Line() {
		t.Fatalf("the line stays high")
	}
}

func (x *bench) status(t *testing.T, want uint64) {
	t.Helper()
	if w, _ := x.b.Load(0x70, 4); w != want {
		t.Fatalf("Status: %d, not %d", w, want)
	}
}

// P19.1 to P19.4: a whole service: what a driver writes into registers and memory, and what it finds there.
func TestService(t *testing.T) {
	x := live(t, 4, 0)
	x.status(t, 15)
	row := pattern(2*sector, 50)
	for i, h := range [][]byte{headed(out, 2), headed(in, 1), headed(flush, 0), headed(getID, 0), headed(in, 4), headed(98, 0)} {
		x.m.Write(begins+16*uint64(i), h)
	}
	x.m.Write(data, row)
	x.offer(0, []api.Segment{reads(begins, 16), reads(data, 2*sector), writes(ends, 1)})
	x.offer(10, []api.Segment{reads(begins+16, 8), reads(begins+24, 8), writes(data+page, 3*sector), writes(ends+1, 1)})
	x.offer(63, []api.Segment{reads(begins, 16)})
	x.offer(30, []api.Segment{reads(begins+32, 16), writes(ends+2, 1)})
	x.offer(20, []api.Segment{reads(begins+48, 16), writes(data+3*page, 21)})
	x.offer(5, []api.Segment{reads(begins+64, 16), writes(data+4*page, sector), writes(ends+3, 1)})
	x.offer(40, []api.Segment{reads(begins+80, 16), writes(ends+4, 1)})
	want := x.keeps()
	x.notify(t)
	all := append(pattern(4*sector, 0)[:2*sector], row...)
	x.wasUsed(t, [2]uint64{0, 1}, [2]uint64{10, 1537}, [2]uint64{63, 0}, [2]uint64{30, 1}, [2]uint64{20, 21}, [2]uint64{5, 1}, [2]uint64{40, 1})
	if !bytes.Equal(x.held(), all) {
		t.Errorf("the disk isn't as it was written")
	}
	name := append([]byte("a disk"), make([]byte, 15)...)
	want.m.Write(data+page, all[sector:])
	want.m.Write(data+3*page, name)
	want.m.Write(ends, []byte{good, good, good, bad, unknown})
	want.m.Write(used, x.stands(t, used, 4+8*7))
	if !ram.Same(x.m, want.m) {
		t.Errorf("the memory isn't as it should be: %x", ram.Differ(x.m, want.m, 9))
	}
	x.raised(t, 1)
	x.status(t, 15)
	x.logs(t, Done{Head{out, 2}, good, 1}, Done{Head{in, 1}, good, 1537}, Done{Head{flush, 0}, good, 1}, Done{Head{getID, 0}, good, 21}, Done{Head{in, 4}, bad, 1}, Done{Head{98, 0}, unknown, 1})
	if x.d.Requests() != 4 || x.d.Flushes() != 1 {
		t.Errorf("%d requests, %d flushes", x.d.Requests(), x.d.Flushes())
	}
	x.notify(t)
	x.raised(t, 0)
	x.logs(t)
}

// P19.1, P19.2: the document's example of the whole: sector 3, of 512 bytes, by a table that a descriptor names, with numbers for events.
func TestServiceByTable(t *testing.T) {
	x := live(t, 4, indirect|eventIdx)
	x.m.Write(begins, headed(in, 3))
	lay(x.m, base+0x6000, 0, []api.Segment{reads(begins, 16), writes(data, sector), writes(ends, 1)})
	x.m.Write(table+16*7, []byte{0, 0x60, 0, 0x80, 0, 0, 0, 0, 48, 0, 0, 0, 4, 0, 0, 0})
	x.head(7)
	x.notify(t)
	x.wasUsed(t, [2]uint64{7, 513})
	if !bytes.Equal(x.stands(t, data, sector), pattern(4*sector, 0)[3*sector:]) {
		t.Errorf("the sector isn't what stands there")
	}
	if w, _ := x.m.Load(ends, 1); w != good {
		t.Errorf("the end is %d", w)
	}
	if w, _ := x.m.Load(used+4+8*64, 2); w != 1 {
		t.Errorf("it asks to be told behind %d", w)
	}
	x.raised(t, 1)
	// The driver wants to be told behind the third alone.
	x.m.Store(avail+4+2*64, 2, 2)
	x.head(7)
	x.notify(t)
	x.raised(t, 0)
	x.head(7)
	x.notify(t)
	x.raised(t, 1)
	x.wasUsed(t, [2]uint64{7, 513}, [2]uint64{7, 513}, [2]uint64{7, 513})
}

// P19.1: a table that wasn't agreed on, a chain that leads to itself, and a piece beyond memory: the device can't go on till it is begun anew; what was ahead of them was served.
func TestServiceThatBreaks(t *testing.T) {
	for _, spoil := range []func(x *bench){
		func(x *bench) {
			x.m.Write(table+16*7, []byte{0, 0x60, 0, 0x80, 0, 0, 0, 0, 48, 0, 0, 0, 4, 0, 0, 0})
		},
		func(x *bench) {
			x.m.Write(table+16*7, []byte{0, 0x60, 0, 0x80, 0, 0, 0, 0, 48, 0, 0, 0, 3, 0, 7, 0})
		},
		func(x *bench) {
			x.m.Write(table+16*7, []byte{0, 0x60, 0, 0x90, 0, 0, 0, 0, 48, 0, 0, 0, 2, 0, 0, 0})
		},
	} {
		x := live(t, 4, 0)
		x.m.Write(begins, headed(flush, 0))
		x.offer(0, plain(0, 0))
		spoil(x)
		x.head(7)
		x.offer(0, plain(0, 0))
		x.notify(t)
		x.wasUsed(t, [2]uint64{0, 1})
		x.status(t, 79)
		x.raised(t, 3)
		want := x.keeps()
		x.notify(t)
		x.b.Notified(0)
		x.is(t, want)
		x.logs(t, Done{Head{flush, 0}, good, 1})
		x.drive(t, [2]uint64{0x70, 0})
		x.begin(t, 0)
		x.drive(t, [2]uint64{0x70, 15})
		x.m.Write(begins, headed(flush, 0))
		x.offer(1, plain(0, 0))
		x.notify(t)
		x.wasUsed(t, [2]uint64{1, 1})
		x.status(t, 15)
		x.raised(t, 1)
	}
}

// P19.1: Notified of the queue 0 serves it; of other numbers there is no queue.
func TestNotified(t *testing.T) {
	x := live(t, 4, 0)
	x.m.Write(begins, headed(in, 1))
	x.offer(3, plain(0, sector))
	want := x.keeps()
	for _, n := range []int{math.MinInt, math.MinInt32, -65536, -2, -1, 1, 2, 15, 16, 17, 255, 256, 65536, 1 << 32, math.MaxInt32, math.MaxInt} {
		x.b.Notified(n)
		x.is(t, want)
		x.logs(t)
	}
	x.b.Notified(0)
	x.wasUsed(t, [2]uint64{3, 513})
	if !bytes.Equal(x.stands(t, data, sector), pattern(4*sector, 0)[sector:2*sector]) {
		t.Errorf("the sector isn't what stands there")
	}
	x.raised(t, 1)
	x.b.Notified(0)
	x.raised(t, 0)
	// The driver doesn't want to be told.
	x.m.Store(avail, 2, 1)
	x.offer(3, plain(0, sector))
	x.b.Notified(0)
	x.raised(t, 0)
	x.wasUsed(t, [2]uint64{3, 513}, [2]uint64{3, 513})
}

// P19.1: a device that isn't Live, or whose queue isn't Ready, serves nothing that waits.
func TestNotifiedOfNoLiveDevice(t *testing.T) {
	x := over(t, 4, false)
	silent := func() {
		t.Helper()
		x.m.Write(begins, headed(in, 1))
		want := x.keeps()
		x.notify(t)
		x.b.Notified(0)
		x.b.Notified(1)
		x.is(t, want)
		x.logs(t)
	}
	silent()
	x.begin(t, 0)
	x.offer(3, plain(0, sector))
	silent()
	x.drive(t, [2]uint64{0x70, 15}, [2]uint64{0x44, 0})
	silent()
	x.drive(t, [2]uint64{0x44, 1})
	x.b.Break()
	silent()
	x.b.Reset()
	silent()
	x.begin(t, 0)
	x.drive(t, [2]uint64{0x70, 15})
	x.offer(3, plain(0, sector))
	x.notify(t)
	x.wasUsed(t, [2]uint64{3, 513})
	x.logs(t, Done{Head{in, 1}, good, 513})
}
