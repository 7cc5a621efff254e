package tty

import (
	"bytes"
	"math"
	"reflect"
	"testing"

	"vireo/api"
	"vireo/fifo"
	"vireo/queue"
	"vireo/vmmio"
)

// P20.1: the registers of a device of kind 3: the features, two queues, nothing told of itself; nothing waits, nothing was transmitted.
func TestNew(t *testing.T) {
	x := fresh(t)
	k := x.keeps()
	regs := vmmio.Regs{ID: 3, Offered: 1<<32 | 1<<29 | 1<<28, Queues: make([]queue.Queue, 2)}
	if got := *x.c.Regs; len(got.Space) != 0 {
		t.Errorf("it tells of itself %x", got.Space)
	} else if got.Space = nil; !reflect.DeepEqual(got, regs) {
		t.Errorf("%+v, not %+v", got, regs)
	}
	x.waits(t, nil, 0, 0)
	x.told(t, nil, 0)
	x.c = New(x.m)
	x.is(t, k)
	if ID != 3 || Receive != 0 || Transmit != 1 {
		t.Errorf("ID %d, Receive %d, Transmit %d", ID, Receive, Transmit)
	}
}

// P20.1: what a driver reads in the registers, whose calls the device promotes.
func TestWhatADriverReads(t *testing.T) {
	x := fresh(t)
	read := func(at uint64, n int, want uint64) {
		t.Helper()
		if w, ok := x.c.Load(at, n); w != want || !ok {
			t.Errorf("Load(%#x, %d): %#x, %v, not %#x", at, n, w, ok, want)
		}
	}
	for at, want := range map[uint64]uint64{0: 0x74726976, 4: 2, 8: 3, 0xc: 0x6f657276, 0x10: 0x30000000, 0x34: 256, 0x44: 0, 0x60: 0, 0x70: 0, 0xfc: 0} {
		read(at, 4, want)
	}
	for at := uint64(0x100); at < 0x1000; at += 8 {
		read(at, 8, 0)
	}
	x.drive(t, [2]uint64{0x14, 1}, [2]uint64{0x30, 1})
	read(0x10, 4, 1)
	read(0x34, 4, 256)
	x.drive(t, [2]uint64{0x14, 2}, [2]uint64{0x30, 2})
	read(0x10, 4, 0)
	read(0x34, 4, 0)
	if x.c.Live() || x.c.Line() || x.c.Has(ones) {
		t.Errorf("it begins as if a driver had spoken to it")
	}
}

// P20.1: what is offered may be agreed on, all of it or some, and nothing else.
func TestWhatMayBeAgreedOn(t *testing.T) {
	for features, want := range map[uint64]uint64{
		0: 11, indirect: 11, eventIdx: 11, indirect | eventIdx: 11, 1: 3, 1 << 5: 3, 1 << 9: 3, 1 << 27: 3, 1 << 30: 3, 1<<31 | indirect: 3,
	} {
		x := fresh(t)
		x.drive(t, [2]uint64{0x70, 3}, [2]uint64{0x20, features}, [2]uint64{0x24, 1}, [2]uint64{0x20, 1}, [2]uint64{0x70, 11})
		x.status(t, want)
	}
}

// P20.1: the input is the row itself, with room for 4096 bytes: what comes into it from elsewhere the driver gets, too, and what is taken from it it doesn't.
func TestInputIsTheRow(t *testing.T) {
	x := live(t, 0)
	f := x.c.Input()
	if f == nil || f.Room() != 4096 {
		t.Fatalf("Input: %v", f)
	}
	x.c.Type(1, 2, 3)
	if f.Len() != 3 || f != x.c.Input() {
		t.Fatalf("what was typed doesn't come into the row")
	}
	f.Take(1)
	f.Put(4)
	if x.c.Type(5) != 1 || f.Len() != 4 {
		t.Fatalf("%d bytes wait", f.Len())
	}
	piece := writes(data, 3)
	x.offer(0, 0, piece)
	k := x.keeps()
	k.uses(0, 0, []api.Segment{piece}, []byte{2, 3, 4})
	k.input.Take(3)
	x.comesTo(t, k, func() { x.c.Notified(Receive) })
	if got := f.Peek(9); !bytes.Equal(got, []byte{5}) || f.Taken() != 4 {
		t.Fatalf("%x wait, %d were taken", got, f.Taken())
	}
	f.Clear()
	x.waits(t, nil, 4, 0)
	// Nothing waits, so a chain has to.
	x.offer(0, 0, piece)
	x.comesTo(t, x.keeps(), func() { x.c.Notified(Receive) })
}

// P20.1: each device has a row and an output of its own, in one memory, too.
func TestDevicesOfTheirOwn(t *testing.T) {
	x := live(t, 0)
	y := &bench{x.m, New(x.m)}
	x.c.Type(1, 2)
	y.waits(t, nil, 0, 0)
	y.c.Type(3)
	x.waits(t, []byte{1, 2}, 0, 0)
	x.offer(1, 0, reads(data, 2))
	x.notify(t, 1)
	y.told(t, nil, 0)
	if y.c.Live() || y.c.Line() || fifo.Same(x.c.Input(), y.c.Input()) {
		t.Errorf("the one is as the other")
	}
}

// P20.2: the numbers of queues that there aren't: nothing comes of them, whatever waits.
func TestNotifiedOfOtherNumbers(t *testing.T) {
	x := live(t, 0)
	x.c.Type(1, 2, 3)
	x.offer(0, 0, writes(data, 2))
	x.offer(1, 0, reads(data+8, 2))
	for _, n := range []int{
		math.MinInt, math.MinInt + 1, math.MinInt32, -65536, -65535, -256, -255, -3, -2, -1, 2, 3, 4, 15, 16, 17, 255, 256, 257, 65536, 65537,
		1 << 31, 1 << 32, 1<<32 + 1, math.MaxInt32, math.MaxInt - 1, math.MaxInt,
	} {
		x.comesTo(t, x.keeps(), func() { x.c.Notified(n) })
	}
	for _, n := range []uint64{2, 3, 16, 256, 65536, 1 << 31, 1<<32 - 1} {
		k := x.keeps()
		if what, of, ok := x.c.Store(x.m, 0x50, 4, n); what != vmmio.Nothing || of != 0 || !ok {
			t.Fatalf("a write of %d to QueueNotify asks for %d of %d", n, what, of)
		}
		x.is(t, k)
	}
}
