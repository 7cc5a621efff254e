package vmmio

import (
	"math/rand"
	"testing"

	"vireo/queue"
)

// words: what is written, with bits beyond the 32 lowest that don't count.
var words = []uint64{0, 1, 2, 3, 255, 256, 0x87654321, 1 << 31, low, 1 << 32, 1<<32 + 1, 0xfedcba9800000002, 1 << 63, ones}

// P18.2: where nothing is told of a write nothing changes, also where something is read, and beyond Config.
func TestStoreWhereNothingIsTold(t *testing.T) {
	m := made(t)
	told := map[uint64]bool{0x14: true, 0x20: true, 0x24: true, 0x30: true, 0x38: true, 0x44: true, 0x50: true, 0x64: true, 0x70: true, 0x80: true, 0x84: true, 0x90: true, 0x94: true, 0xa0: true, 0xa4: true}
	for at := uint64(0); at < 256; at += 4 {
		if told[at] {
			continue
		}
		for _, w := range words {
			leaves(t, m, full(), at, w)
			leaves(t, m, begun(t, ones, 2), at, w)
		}
	}
	for at := uint64(256); at < 4096; at++ {
		for _, n := range widths {
			if at%uint64(n) == 0 {
				stores(t, m, full(), at, n, ones, asked{0, 0, true}, full())
				stores(t, m, full(), at, n, 0, asked{0, 0, true}, full())
			}
		}
	}
}

// P18.2: what selects is v, the 32 lowest bits of w, whatever it is.
func TestStoreOfSelections(t *testing.T) {
	m := made(t)
	for _, w := range words {
		v := uint32(w % version1)
		puts(t, m, full(), 0x14, w, with(full(), func(r *Regs) { r.DevSel = v }))
		puts(t, m, full(), 0x24, w, with(full(), func(r *Regs) { r.DrvSel = v }))
		puts(t, m, full(), 0x30, w, with(full(), func(r *Regs) { r.QueueSel = v }))
	}
}

// P18.2: each half of what is agreed on is v, unless FeaturesOK is set, or another half is selected.
func TestStoreOfDrvFeatures(t *testing.T) {
	m := made(t)
	for _, w := range words {
		v := w % version1
		for _, bits := range []uint32{0, 3, 7, 64, 128, 0xf7, low - 8} {
			free := with(full(), func(r *Regs) { r.Bits = bits })
			half := func(sel uint32, agreed uint64) {
				before := with(free, func(r *Regs) { r.DrvSel, r.DevSel = sel, 1-sel%2 })
				puts(t, m, before, 0x20, w, with(before, func(r *Regs) { r.Agreed = agreed }))
				for _, set := range []uint32{8, 15, low} {
					leaves(t, m, with(before, func(r *Regs) { r.Bits |= set }), 0x20, w)
				}
			}
			half(0, 0x28272625<<32|v)
			half(1, v<<32|0x24232221)
			for _, sel := range []uint32{2, 3, 4, 32, 64, 1 << 26, 1 << 27, 1<<27 + 1, 1 << 31, 1<<31 + 1, low - 1, low} {
				half(sel, 0x2827262524232221)
			}
		}
	}
}

// P18.2: the parts of a queue's layout: of a queue that is Ready, and of one that there isn't, nothing changes.
func TestStoreOfLayout(t *testing.T) {
	m := made(t)
	parts := map[uint64]func(q *queue.Queue, v uint64){
		0x38: func(q *queue.Queue, v uint64) { q.Layout.Size = int(v) },
		0x80: func(q *queue.Queue, v uint64) { q.Layout.Desc = 0x68676665<<32 | v },
		0x84: func(q *queue.Queue, v uint64) { q.Layout.Desc = v<<32 | 0x64636261 },
		0x90: func(q *queue.Queue, v uint64) { q.Layout.Avail = 0x78777675<<32 | v },
		0x94: func(q *queue.Queue, v uint64) { q.Layout.Avail = v<<32 | 0x74737271 },
		0xa0: func(q *queue.Queue, v uint64) { q.Layout.Used = 0x88878685<<32 | v },
		0xa4: func(q *queue.Queue, v uint64) { q.Layout.Used = v<<32 | 0x84838281 },
	}
	for at, part := range parts {
		for _, w := range words {
			puts(t, m, full(), at, w, with(full(), func(r *Regs) { part(&r.Queues[1], w%version1) }))
			for _, sel := range []uint32{0, 2, 3, 4, 16, 257, 1<<31 + 1, low} { // 0 and 2 are Ready
				leaves(t, m, with(full(), func(r *Regs) { r.QueueSel = sel }), at, w)
			}
			leaves(t, m, &Regs{}, at, w)
		}
	}
}

// P18.2: the layout that a driver writes, half by half, is the queue's, of each queue its own.
func TestLayoutsOfTheirOwn(t *testing.T) {
	m := made(t)
	r := begun(t, 0, 16)
	want := copied(r)
	for n := range 16 {
		lays(t, m, r, n, layout(n))
		want.Queues[n].Layout, want.Queues[n].Ready = layout(n), true
		want.QueueSel = uint32(n)
		is(t, r, want)
	}
}

// P18.2: a write to QueueNotify asks for Notify of each queue that there is, be it Ready or not, while the device is Live; nothing changes.
func TestStoreOfQueueNotify(t *testing.T) {
	m := made(t)
	for _, queues := range []int{0, 1, 3, 16} {
		for bits := range uint32(256) {
			r := New(1, 0, queues)
			r.Bits, r.QueueSel = bits, 7
			if queues > 1 {
				r.Queues[1].Ready = true
			}
			for _, w := range append([]uint64{4, 15, 16, 17, 31, 32, 1<<32 + 15, 1<<63 + 2}, words...) {
				want := asked{0, 0, true}
				if v := w % version1; v < uint64(queues) && hasBit(uint64(bits), 4) && !hasBit(uint64(bits), 64) {
					want = asked{2, int(v), true}
				}
				stores(t, m, r, 0x50, 4, w, want, r)
			}
		}
	}
}

// P18.2: of each cause a write to IntAck takes those away whose bits are set, no others.
func TestStoreOfIntAck(t *testing.T) {
	m := made(t)
	for was := range uint32(8) {
		for v := range uint32(8) {
			before := with(full(), func(r *Regs) { r.Pending = was })
			puts(t, m, before, 0x64, uint64(v)|5<<32, with(before, func(r *Regs) { r.Pending = was - was&v }))
		}
	}
	puts(t, m, full(), 0x64, ones, with(full(), func(r *Regs) { r.Pending = 0 }))
	puts(t, m, full(), 0x64, 1<<32, full())
	puts(t, m, full(), 0x64, 0xf00000ff, with(full(), func(r *Regs) { r.Pending = 0x04a3a200 }))
}

// P18.2: Restart is asked for by a write of 0 to Status alone, and so is v there, not w.
func TestRestart(t *testing.T) {
	m := made(t)
	reset := copied(full())
	reset.Reset()
	for _, w := range []uint64{0, 1 << 32, 1 << 63, low << 32} {
		stores(t, m, full(), 0x70, 4, w, asked{1, 0, true}, reset)
	}
	for at := uint64(0); at < 4096; at += 4 {
		if at == 0x70 {
			continue
		}
		r := full()
		if what, of, ok := r.Store(m, at, 4, 0); what != 0 || of != 0 || !ok {
			t.Errorf("a write of 0 at %#x: %d, %d, %v", at, what, of, ok)
		}
	}
	for i := range 32 {
		r := full()
		if what, of, ok := r.Store(m, 0x70, 4, 1<<i); what != 0 || of != 0 || !ok {
			t.Errorf("a write of bit %d to Status: %d, %d, %v", i, what, of, ok)
		}
	}
}

// P18.2: no access touches the memory.
func TestAccessesLeaveMemory(t *testing.T) {
	chance := rand.New(rand.NewSource(2))
	m := filled(t)
	row := string(all(t, m))
	r := New(1, indirect|eventIdx, 3)
	for range 20000 {
		at, w := somePair(chance)
		r.Store(m, at, 4, w)
		r.Load(somePlace(chance), 4)
	}
	if string(all(t, m)) != row {
		t.Errorf("the memory is another one")
	}
}
