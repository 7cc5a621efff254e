package bus

import (
	"testing"

	"vireo/ram"
)

// stores: a store that may be.
func (x *bench) stores(t *testing.T, at uint64, n int, w uint64) {
	t.Helper()
	if !x.b.Store(at, n, w) {
		t.Fatalf("Store(%#x, %d, %#x): false", at, n, w)
	}
}

// P21.2, P21.4: to memory so many bytes are put there, and nothing else changes, whatever waits, and whatever lies there.
func TestStoreToMemory(t *testing.T) {
	const w = 0x1122334455667788
	x := busy(t)
	for _, n := range []int{1, 2, 4, 8} {
		for _, at := range []uint64{base, base + 1, base + page - 1, base + page - 2, end - uint64(n), table(diskQueue), used(receive), used(transmit) + 5, avail(diskQueue) + 2, avail(transmit) + 2} {
			want := x.keeps()
			log := &ram.Log{}
			x.m.Watch(log)
			x.stores(t, at, n, w)
			x.m.Watch(nil)
			want.m.Write(at, []byte{0x88, 0x77, 0x66, 0x55, 0x44, 0x33, 0x22, 0x11}[:n])
			x.is(t, want)
			if len(log.Writes) != 1 || log.Writes[0].At != at || log.Writes[0].Len != uint64(n) {
				t.Fatalf("Store(%#x, %d): %x is written", at, n, log.Writes)
			}
		}
	}
	if len(x.b.Blk.Log()) != 1 {
		t.Errorf("a request was served by a store to memory")
	}
}

// P21.2: to the time's part its registers are put, in halves or whole; at places that are nothing nothing changes.
func TestStoreToTheTime(t *testing.T) {
	x := busy(t)
	want := x.keeps()
	x.stores(t, clintAt+0x4000, 8, 0x1122334455667788)
	want.clint.Cmp = 0x1122334455667788
	x.is(t, want)
	x.stores(t, clintAt+0x4004, 4, 0x99)
	want.clint.Cmp = 0x0000009955667788
	x.is(t, want)
	x.stores(t, clintAt+0xbff8, 4, 0xffffffff00000003)
	want.clint.Now = 3
	x.is(t, want)
	x.stores(t, clintAt+0xbffc, 4, 1)
	want.clint.Now = 1<<32 + 3
	x.is(t, want)
	x.stores(t, clintAt, 4, 2)
	want.clint.Soft = false
	x.is(t, want)
	x.stores(t, clintAt, 4, 1)
	want.clint.Soft = true
	x.is(t, want)
	for _, at := range []uint64{4, 0x3ffc, 0x4008, 0xbff4, 0xc000, 0xfffc} {
		x.stores(t, clintAt+at, 4, ones)
		x.is(t, want)
	}
	x.stores(t, clintAt+0xfff8, 8, ones)
	x.is(t, want)
}

// P21.2: to the interrupts' part its registers are put, and what a context is done with isn't served; at places that are nothing nothing changes.
func TestStoreToTheInterrupts(t *testing.T) {
	x := fresh(t)
	x.b.Plic.High = 1 << 2
	want := x.keeps()
	for n := range uint64(32) {
		x.stores(t, plicAt+4*n, 4, 0x10+n%8)
		if n > 0 {
			want.plic.Prio[n] = uint32(n % 8)
		}
	}
	x.is(t, want)
	x.stores(t, plicAt+0x2000, 4, ones)
	x.stores(t, plicAt+0x2080, 4, 4)
	x.stores(t, plicAt+0x200000, 4, 9)
	x.stores(t, plicAt+0x201000, 4, 6)
	want.plic.Lets, want.plic.Least = [2]uint32{0xfffffffe, 4}, [2]uint32{1, 6}
	x.is(t, want)
	x.b.Plic.Serving, want.plic.Serving = 1<<2|1<<3, 1<<2|1<<3
	x.stores(t, claim(1), 4, 3)
	x.stores(t, claim(0), 4, 1<<31|2)
	x.stores(t, claim(0), 4, 32)
	x.is(t, want)
	x.stores(t, claim(1), 4, 1<<32|2)
	want.plic.Serving, want.plic.Waits = 1<<3, 1<<2
	x.is(t, want)
	x.stores(t, claim(0), 4, 3)
	want.plic.Serving = 0
	x.is(t, want)
	for _, at := range []uint64{0x80, 0xffc, 0x1000, 0x1004, 0x2004, 0x2100, 0x1ffffc, 0x200008, 0x202000, 0x202004, 0x3ffffc} {
		x.stores(t, plicAt+at, 4, ones)
		x.is(t, want)
	}
}

// P21.2: to a device its registers are put, each device's own; where nothing is told of a write nothing changes.
func TestStoreToTheDevices(t *testing.T) {
	x := fresh(t)
	want := x.keeps()
	x.drive(t, blkAt, [2]uint64{status, 3}, [2]uint64{0x14, 1}, [2]uint64{0x24, 1}, [2]uint64{0x20, 1 << 32}, [2]uint64{0x30, 9})
	want.blk.Bits, want.blk.DevSel, want.blk.DrvSel, want.blk.QueueSel = 3, 1, 1, 9
	x.is(t, want)
	x.drive(t, ttyAt, [2]uint64{status, 1}, [2]uint64{0x20, 7}, [2]uint64{0x30, 1}, [2]uint64{0x38, 8}, [2]uint64{0x84, 5}, [2]uint64{0x90, 6}, [2]uint64{0xa0, 7})
	want.tty.Bits, want.tty.Agreed, want.tty.QueueSel = 1, 7, 1
	l := &want.tty.Queues[1].Layout
	l.Size, l.Desc, l.Avail, l.Used = 8, 5<<32, 6, 7
	x.is(t, want)
	for _, device := range []uint64{blkAt, ttyAt} {
		for _, at := range []uint64{0, 4, 8, 0xc, 0x10, 0x18, 0x34, 0x3c, notify, intStatus, 0xfc, 0x100, 0xffc} {
			x.put(t, device+at, 5)
		}
		x.stores(t, device+0x100, 8, ones)
		x.stores(t, device+0xfff, 1, ones)
		x.stores(t, device+0xffe, 2, ones)
	}
	x.is(t, want)
	// A queue is Ready where it may lie in the memory, just there.
	x = fresh(t)
	x.drive(t, blkAt,
		[2]uint64{status, 3}, [2]uint64{0x24, 1}, [2]uint64{0x20, 1}, [2]uint64{status, 11}, [2]uint64{0x38, 256},
		[2]uint64{0x80, end - 4096}, [2]uint64{0x90, base + 2}, [2]uint64{0xa0, base + 4}, [2]uint64{0x44, 1})
	x.holds(t, blkAt+0x44, 4, 1)
	x.drive(t, blkAt, [2]uint64{0x44, 0}, [2]uint64{0x80, end - 4080}, [2]uint64{0x44, 1})
	x.holds(t, blkAt+0x44, 4, 0)
}

// P21.2, P2: a store that may not be changes nothing, in each part and beside it.
func TestStoresThatMayNotBe(t *testing.T) {
	x := busy(t)
	want := x.keeps()
	refused := 0
	for _, p := range piecesOf(size) {
		for _, n := range widths {
			for _, at := range []uint64{p.from - 1, p.from, p.from + 1, p.from + 2, p.from + 0x100, p.last - 8, p.last - 7, p.last - 3, p.last - 1, p.last, p.last + 1} {
				part, place := partOf(size, at, n)
				if mayBe(part, place, n) {
					continue
				}
				refused++
				if x.b.Store(at, n, 0x0101010101010101) {
					t.Fatalf("Store(%#x, %d): true", at, n)
				}
				if w, ok := x.b.Load(at, n); w != 0 || ok {
					t.Fatalf("Load(%#x, %d): %#x, %v", at, n, w, ok)
				}
			}
		}
	}
	x.is(t, want)
	if refused < 500 {
		t.Errorf("%d were refused", refused)
	}
}

// mayBe: may there be an access of n bytes at a place of a part?
func mayBe(part int, place uint64, n int) bool {
	whole := n == 1 || n == 2 || n == 4 || n == 8
	switch part {
	case 1:
		return whole
	case 2:
		return (n == 4 || n == 8) && place%uint64(n) == 0
	case 3:
		return n == 4 && place%4 == 0
	case 4, 5:
		if place < 0x100 {
			return n == 4 && place%4 == 0
		}
		return whole && place%uint64(n) == 0
	}
	return false
}

// P21.2: at every place of the devices, and of the time's part, an access may be just as there the part says.
func TestWhichMayBe(t *testing.T) {
	x := fresh(t)
	ask := func(at uint64) {
		for n := 0; n <= 9; n++ {
			part, place := partOf(size, at, n)
			want := mayBe(part, place, n)
			if _, ok := x.b.Load(at, n); ok != want {
				t.Fatalf("Load(%#x, %d): %v", at, n, ok)
			}
			if ok := x.b.Store(at, n, 0); ok != want {
				t.Fatalf("Store(%#x, %d): %v", at, n, ok)
			}
		}
	}
	for at := uint64(blkAt - 8); at < ttyAt+0x1000+8; at++ {
		ask(at)
	}
	for at := uint64(clintAt - 8); at < clintAt+0x10000+8; at++ {
		ask(at)
	}
	for _, at := range edges(size) {
		ask(at)
	}
}
