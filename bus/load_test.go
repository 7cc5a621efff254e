package bus

import (
	"testing"

	"vireo/disk"
	"vireo/ram"
)

// P21.2: of memory the memory's load, of each number of bytes, at any place of it.
func TestLoadOfMemory(t *testing.T) {
	x := fresh(t)
	for i, w := range []uint64{0x1122334455667788, 0x99aabbccddeeff00} {
		x.m.Store(base+8*uint64(i), 8, w)
	}
	x.holds(t, base, 1, 0x88)
	x.holds(t, base, 2, 0x7788)
	x.holds(t, base, 4, 0x55667788)
	x.holds(t, base, 8, 0x1122334455667788)
	x.holds(t, base+7, 2, 0x0011)
	x.holds(t, base+6, 4, 0xff001122)
	x.holds(t, base+3, 8, 0xeeff001122334455)
	x.m.Store(end-8, 8, 0x0102030405060708)
	x.holds(t, end-8, 8, 0x0102030405060708)
	x.holds(t, end-4, 4, 0x01020304)
	x.holds(t, end-1, 1, 1)
	for _, n := range []int{3, 5, 6, 7} {
		x.refuses(t, base, n)
		x.refuses(t, end-8, n)
	}
	for n := 1; n <= 8; n++ {
		x.refuses(t, end-uint64(n)+1, n)
		x.refuses(t, base-1, n)
	}
}

// P21.2: of the time's part what stands at its places, in halves or whole, and 0 at places that are nothing.
func TestLoadOfTheTime(t *testing.T) {
	x := fresh(t)
	x.b.Clint.Soft, x.b.Clint.Cmp, x.b.Clint.Now = true, 0x1122334455667788, 0x99aabbccddeeff00
	want := x.keeps()
	x.holds(t, clintAt, 4, 1)
	x.holds(t, clintAt+0x4000, 8, 0x1122334455667788)
	x.holds(t, clintAt+0x4004, 4, 0x11223344)
	x.holds(t, clintAt+0xbff8, 8, 0x99aabbccddeeff00)
	x.holds(t, clintAt+0xbff8, 4, 0xddeeff00)
	for _, at := range []uint64{4, 8, 0x3ff8, 0x4008, 0xbff0, 0xc000, 0xfff8} {
		x.holds(t, clintAt+at, 4, 0)
	}
	x.holds(t, clintAt+0xfff8, 8, 0)
	x.holds(t, clintAt+0xfffc, 4, 0)
	x.is(t, want)
	for _, n := range []int{1, 2, 3, 5, 6, 7} {
		x.refuses(t, clintAt+0x4000, n)
	}
	x.refuses(t, clintAt+2, 4)
	x.refuses(t, clintAt+0xbffc, 8)
	x.refuses(t, clintAt+0xfffc, 8)
	x.refuses(t, clintAt-4, 8)
}

// P21.2: of the interrupts' part its registers, and 0 at places that are nothing.
func TestLoadOfTheInterrupts(t *testing.T) {
	x := fresh(t)
	for n := 1; n < 32; n++ {
		x.b.Plic.Prio[n] = uint32(n % 8)
	}
	x.b.Plic.Waits, x.b.Plic.High = 0xfffffffe, 0x12
	x.b.Plic.Lets, x.b.Plic.Least = [2]uint32{0x30, 0xc0}, [2]uint32{5, 7}
	want := x.keeps()
	for n := range uint64(32) {
		x.holds(t, plicAt+4*n, 4, n%8)
	}
	x.holds(t, plicAt+0x1000, 4, 0xfffffffe)
	x.holds(t, plicAt+0x2000, 4, 0x30)
	x.holds(t, plicAt+0x2080, 4, 0xc0)
	x.holds(t, plicAt+0x200000, 4, 5)
	x.holds(t, plicAt+0x201000, 4, 7)
	for _, at := range []uint64{0x80, 0xffc, 0x1004, 0x1ffc, 0x2004, 0x2100, 0x1ffffc, 0x200008, 0x202000, 0x202004, 0x3ffffc} {
		x.holds(t, plicAt+at, 4, 0)
	}
	x.is(t, want)
	for _, n := range []int{1, 2, 3, 5, 6, 7, 8} {
		x.refuses(t, plicAt+0x1000, n)
		x.refuses(t, claim(0), n)
	}
	x.refuses(t, plicAt+2, 4)
	x.refuses(t, plicAt+0x3ffffe, 4)
}

// P21.2, P21.4: a load at a claim's place claims: the first source doesn't wait any more, and is being served; nothing else changes.
func TestLoadOfAClaim(t *testing.T) {
	x := fresh(t)
	x.lets(t, 0, 1, 2)
	x.lets(t, 1, 1, 2, 5)
	x.b.Plic.Line(1, true)
	x.b.Plic.Line(2, true)
	x.lines(t, 0xa00)
	want := x.keeps()
	want.plic.Waits, want.plic.Serving = 2, 4
	x.holds(t, claim(0), 4, 2)
	x.is(t, want)
	x.lines(t, 0xa00)
	want.plic.Waits, want.plic.Serving = 0, 6
	x.holds(t, claim(1), 4, 1)
	x.is(t, want)
	x.lines(t, 0)
	for context := range uint64(2) {
		x.holds(t, claim(context), 4, 0)
		x.is(t, want)
	}
	x.put(t, claim(1), 2)
	want.plic.Waits, want.plic.Serving = 4, 2
	x.is(t, want)
}

// P21.2: of the devices what their registers hold, each of its own.
func TestLoadOfTheDevices(t *testing.T) {
	x := fresh(t)
	for device, id := range map[uint64]uint64{blkAt: 2, ttyAt: 3} {
		x.holds(t, device, 4, 0x74726976)
		x.holds(t, device+4, 4, 2)
		x.holds(t, device+8, 4, id)
		x.holds(t, device+0xc, 4, 0x6f657276)
		x.holds(t, device+0x34, 4, 256)
		x.holds(t, device+status, 4, 0)
		for _, at := range []uint64{0x14, 0x18, 0x3c, notify, 0xf8} {
			x.holds(t, device+at, 4, 0)
		}
		for _, n := range []int{1, 2, 3, 5, 6, 7, 8} {
			x.refuses(t, device, n)
			x.refuses(t, device+0xf8, n)
		}
		for _, n := range []int{3, 5, 6, 7} {
			x.refuses(t, device+0x100, n)
		}
		x.refuses(t, device+2, 4)
		x.refuses(t, device+0x101, 2)
		x.refuses(t, device+0x104, 8)
		x.holds(t, device+0xff8, 8, 0)
		x.holds(t, device+0xfff, 1, 0)
	}
	x.holds(t, blkAt+0x10, 4, 1<<29|1<<28|1<<9)
	x.holds(t, ttyAt+0x10, 4, 1<<29|1<<28)
	x.holds(t, blkAt+0x100, 8, count)
	x.holds(t, blkAt+0x100, 1, count)
	x.holds(t, blkAt+0x104, 4, 0)
	x.holds(t, ttyAt+0x100, 8, 0)
	// What is pending in the one isn't in the other, and where the Plic's lines are it doesn't tell.
	x.b.TTY.Raise(3)
	x.holds(t, ttyAt+intStatus, 4, 3)
	x.holds(t, blkAt+intStatus, 4, 0)
}

// P21.2: of no part nothing, of any number of bytes.
func TestLoadOfNone(t *testing.T) {
	x := fresh(t)
	for _, at := range []uint64{
		0, 4, 0x1000, clintAt - 8, clintAt + 0x10000, plicAt - 8, plicAt + 0x400000, blkAt - 8, ttyAt + 0x1000, 0x10003000, base - 8, end, 1 << 32, 1<<32 + base, 1<<32 + blkAt, 1 << 63, ones - 7, ones - 3, ones,
	} {
		for _, n := range []int{1, 2, 4, 8} {
			x.refuses(t, at, n)
		}
	}
	for _, p := range piecesOf(size) {
		for _, n := range widths {
			if n < 1 || n > 8 {
				x.refuses(t, p.from, n)
			}
		}
	}
	// Half outside, and between two.
	for _, n := range []int{2, 4, 8} {
		x.refuses(t, blkAt+0x1000-1, n)
		x.refuses(t, blkAt+0x1000-uint64(n)/2, n)
		x.refuses(t, ttyAt+0x1000-uint64(n)/2, n)
	}
}

// P21.2: the word of an instruction: four bytes of memory, wherever they begin; nowhere else is there any.
func TestFetch(t *testing.T) {
	x := live(t, 0)
	x.m.Store(base, 8, 0x1122334455667788)
	x.m.Store(end-4, 4, 0xfedcba98)
	x.lets(t, 0, 1)
	x.b.Plic.Line(1, true)
	x.b.Clint.Soft = true
	want := x.keeps()
	fetches := func(at uint64, word uint32, is bool) {
		t.Helper()
		if w, ok := x.b.Fetch(at); w != word || ok != is {
			t.Errorf("Fetch(%#x): %#x, %v, not %#x, %v", at, w, ok, word, is)
		}
	}
	fetches(base, 0x55667788, true)
	fetches(base+1, 0x44556677, true)
	fetches(base+2, 0x33445566, true)
	fetches(base+4, 0x11223344, true)
	fetches(end-4, 0xfedcba98, true)
	for _, at := range []uint64{
		end - 3, end - 2, end - 1, end, end + 4, base - 1, base - 3, base - 4, 0, ones, ones - 3, 1<<32 + base, 1<<63 + base,
		clintAt, clintAt + 0x4000, plicAt, plicAt + 4, claim(0), claim(1), blkAt, blkAt + 0x100, ttyAt,
	} {
		fetches(at, 0, false)
	}
	x.is(t, want)
}

// busy: a bus in which there is something everywhere.
func busy(t *testing.T) *bench {
	t.Helper()
	x := live(t, 0)
	x.lets(t, 0, 1, 2)
	x.lets(t, 1, 1, 2)
	x.put(t, plicAt+0x200000, 1)
	x.b.Clint.Soft, x.b.Clint.Cmp, x.b.Clint.Now = true, 5, 7
	x.request(0, 3)
	x.offer(diskQueue, 0, reads(begins, 16), writes(data, sector), writes(ends, 1))
	x.tells(t, diskQueue)
	x.offer(diskQueue, 3, reads(begins, 16), writes(data+page, sector), writes(ends, 1))
	x.b.Type([]byte("typed")...)
	x.offer(receive, 0, writes(data+2*page, 3))
	x.offer(transmit, 0, reads(data, 3))
	x.tells(t, transmit)
	x.offer(transmit, 1, reads(data, 5))
	x.wired(t, 6, 6)
	return x
}

// P21.4: a load changes nothing, wherever it is and of however many bytes, but at the two places of claims.
func TestLoadsChangeNothing(t *testing.T) {
	x := busy(t)
	want := x.keeps()
	log := &ram.Log{}
	x.m.Watch(log)
	told := 0
	ask := func(at uint64) {
		for n := -1; n <= 9; n++ {
			if n == 4 && (at == claim(0) || at == claim(1)) {
				continue
			}
			if w, ok := x.b.Load(at, n); ok && w != 0 {
				told++
			} else if !ok && w != 0 {
				t.Fatalf("Load(%#x, %d): %#x beside false", at, n, w)
			}
		}
		x.b.Fetch(at)
		x.b.Part(at, 4)
		x.b.Lines()
	}
	for _, at := range edges(size) {
		ask(at)
	}
	for at := uint64(blkAt); at < blkAt+0x2000; at++ {
		ask(at)
	}
	for at := uint64(clintAt); at < clintAt+0x10000; at += 2 {
		ask(at)
	}
	for at := uint64(plicAt); at < plicAt+0x400000; at += 4 {
		if at < plicAt+0x3000 || at >= plicAt+0x1ff000 && at < plicAt+0x203000 || at%0x404 == 0 {
			ask(at)
		}
	}
	for at := uint64(base); at < end; at += 13 {
		ask(at)
	}
	x.m.Watch(nil)
	x.is(t, want)
	if len(log.Writes) != 0 || told < 1000 {
		t.Errorf("%x is written; %d loads told something", log.Writes, told)
	}
	if len(x.b.Blk.Log()) != 1 {
		t.Errorf("a request was served by a load")
	}
}

// P21.2: what is told hangs on the bus alone: another one over another memory is another one.
func TestBusesOfTheirOwn(t *testing.T) {
	x := busy(t)
	d, _ := disk.New(9, false)
	y := &bench{memory(t, page), d, nil}
	y.b = New(y.m, d, "")
	want := x.keeps()
	y.put(t, clintAt, 1)
	y.put(t, base, 77)
	y.put(t, plicAt+4, 3)
	y.put(t, ttyAt+status, 1)
	y.holds(t, blkAt+0x100, 8, 9)
	y.b.Type(1, 2)
	x.is(t, want)
}
