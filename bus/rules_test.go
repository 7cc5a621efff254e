package bus

import (
	"bytes"
	"math"
	"math/rand"
	"testing"

	"vireo/disk"
	"vireo/ram"
)

// places: all that may be asked for, and much that may not.
func places() []uint64 {
	return append(edges(size), claim(0), claim(1), blkAt+notify, ttyAt+notify, blkAt+status, ttyAt+status, blkAt+0x44, ttyAt+0x44)
}

// P1: no memory, or no disk: no call panics, and each ends.
func TestWithoutAnything(t *testing.T) {
	d, _ := disk.New(4, true)
	m := memory(t, page)
	for _, b := range []*Bus{New(nil, nil, ""), New(nil, d, "a disk"), New(m, nil, "")} {
		if b == nil {
			t.Fatalf("New: nil")
		}
		for _, at := range places() {
			for _, n := range widths {
				b.Part(at, n)
				b.Load(at, n)
				b.Store(at, n, ones)
			}
			b.Fetch(at)
		}
		if came := b.Type(pattern(5000, 0)...); came != 4096 {
			t.Errorf("Type: %d", came)
		}
		b.Lines()
	}
	b := New(nil, nil, "")
	if part, place := b.Part(base, 4); part != None || place != 0 {
		t.Errorf("Part without memory: %d, %#x", part, place)
	}
	if _, ok := b.Load(base, 4); ok || b.Store(base, 4, 1) {
		t.Errorf("there is memory")
	}
	if w, ok := b.Fetch(base); w != 0 || ok {
		t.Errorf("Fetch: %#x, %v", w, ok)
	}
	if w, ok := b.Load(blkAt+0x100, 8); w != 0 || !ok {
		t.Errorf("a disk that is none has %d sectors, %v", w, ok)
	}
	if w, ok := b.Load(ttyAt, 4); w != 0x74726976 || !ok {
		t.Errorf("Load: %#x, %v", w, ok)
	}
}

// P1: a driver of devices without a memory: no queue may lie there.
func TestADriverWithoutMemory(t *testing.T) {
	x := &bench{nil, nil, New(nil, nil, "")}
	for _, device := range []uint64{blkAt, ttyAt} {
		x.drive(t, device,
			[2]uint64{status, 3}, [2]uint64{0x24, 1}, [2]uint64{0x20, 1}, [2]uint64{status, 11}, [2]uint64{0x38, 8},
			[2]uint64{0x80, base}, [2]uint64{0x90, base + 0x100}, [2]uint64{0xa0, base + 0x200}, [2]uint64{0x44, 1}, [2]uint64{status, 15}, [2]uint64{notify, 0})
		x.holds(t, device+status, 4, 15)
		x.holds(t, device+0x44, 4, 0)
	}
	x.b.Type(1)
	x.lines(t, 0)
}

// P1: at all arguments, as raw as may be, on a bus that works and on one that was never begun.
func TestRawArguments(t *testing.T) {
	for _, x := range []*bench{fresh(t), busy(t)} {
		for _, at := range places() {
			for _, n := range append(widths, 1<<62, -1<<62) {
				x.b.Part(at, n)
				x.b.Load(at, n)
				for _, w := range []uint64{0, 1, 1 << 31, 1 << 32, 1 << 63, ones} {
					x.b.Store(at, n, w)
				}
			}
			x.b.Fetch(at)
			x.b.Lines()
			x.b.Type(1, 2, 3)
		}
		for _, part := range []int{math.MinInt, -1, 0, 5, 6, math.MaxInt} {
			Name(part)
		}
	}
}

// P1: whatever bytes a driver lays, and wherever it says that its queues lie, each store ends, and the devices write within memory alone.
func TestAnyBytes(t *testing.T) {
	chance := rand.New(rand.NewSource(21))
	broke := 0
	for range 300 {
		x := live(t, []uint64{0, indirect, eventIdx, indirect | eventIdx}[chance.Intn(4)])
		x.b.Type(pattern(100, 0)...)
		for _, q := range []int{diskQueue, receive, transmit} {
			list := make([]byte, 0x800)
			chance.Read(list)
			for i := range entries {
				// Mostly addresses of memory, and lengths that aren't beyond it.
				copy(list[16*i+2:], []byte{byte(chance.Intn(3)), 0x80, 0, 0, 0, 0})
				copy(list[16*i+9:], []byte{byte(chance.Intn(4)), 0, 0, byte(chance.Intn(8)), 0, byte(chance.Intn(entries)), 0})
			}
			x.m.Write(table(q), list)
			for i := range uint64(entries) {
				x.m.Store(avail(q)+4+2*i, 2, uint64(chance.Intn(entries)))
			}
			x.m.Store(avail(q)+2, 2, uint64(1+chance.Intn(entries)))
		}
		for range 4 {
			for _, q := range []int{diskQueue, receive, transmit} {
				x.tells(t, q)
			}
			x.b.Type(1, 2, 3)
		}
		if x.b.RAM != x.m || x.m.Size() != size || x.b.Clint.Now != 0 {
			t.Fatalf("it isn't the bus any more that it was")
		}
		high := uint32(0)
		if x.b.Blk.Line() {
			high |= 2
		}
		if x.b.TTY.Line() {
			high |= 4
		}
		if x.b.Plic.High != high {
			t.Fatalf("the sources whose lines are high are %b, not %b", x.b.Plic.High, high)
		}
		if !x.b.Blk.Live() && !x.b.TTY.Live() {
			broke++
		}
	}
	if broke == 0 || broke == 300 {
		t.Errorf("%d broke both devices", broke)
	}
}

// P2, rule 4: what is typed is neither changed nor kept, its spare room neither.
func TestWhatIsTypedStaysTheAskers(t *testing.T) {
	for _, x := range []*bench{fresh(t), live(t, 0)} {
		if x.b.TTY.Live() {
			x.offer(receive, 0, writes(data, 3))
		}
		list := pattern(100, 0)
		x.b.Type(list[:10]...)
		if !bytes.Equal(list, pattern(100, 0)) {
			t.Fatalf("what was typed has become %x", list)
		}
		was := x.keeps()
		for i := range list {
			list[i] = 0xee
		}
		x.is(t, was)
	}
}

// P2, rule 4: what is answered hangs on what was called alone: two buses to which the same happens are alike, and asking changes nothing.
func TestTheSameTwice(t *testing.T) {
	one, two := newWalk(t, 77), newWalk(t, 77)
	for _, k := range []*walk{one, two} {
		k.begins(blkAt)
		k.begins(ttyAt)
	}
	for range 300 {
		one.step()
		two.step()
		for range 2 {
			one.x.b.Lines()
			one.x.b.Part(base, 4)
			one.x.b.Fetch(base)
			one.x.b.Load(ttyAt, 4)
		}
		two.x.is(t, one.x.keeps())
	}
}

// P2, rule 4: New changes neither the memory nor the disk, and keeps them themselves, with what comes to them from elsewhere.
func TestNewKeepsThemselves(t *testing.T) {
	x := fresh(t)
	m, d := x.m.Copy(), x.d.Copy()
	b := New(x.m, x.d, "another")
	if !ram.Same(x.m, m) || !disk.Same(x.d, d) || x.d.Requests() != 0 {
		t.Errorf("the memory, or the disk, has changed")
	}
	x.m.Store(base, 4, 0x12345678)
	if w, ok := b.Load(base, 4); w != 0x12345678 || !ok {
		t.Errorf("Load: %#x, %v", w, ok)
	}
	if w, ok := b.Fetch(base); w != 0x12345678 || !ok {
		t.Errorf("Fetch: %#x, %v", w, ok)
	}
	b.Store(base+4, 4, 7)
	x.holds(t, base+4, 4, 7)
	// Beside the memory and the disk two buses share nothing.
	b.Store(clintAt, 4, 1)
	b.Store(plicAt+4, 4, 1)
	b.Store(blkAt+status, 4, 1)
	b.Type(1)
	if x.b.Clint.Soft || x.b.Plic.Prio[1] != 0 || x.b.Blk.Bits != 0 || x.b.TTY.Input().Len() != 0 {
		t.Errorf("the one is as the other")
	}
}
