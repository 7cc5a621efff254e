package vmmio

import (
	"testing"

	"vireo/api"
	"vireo/queue"
	"vireo/ring"
)

// laid: registers of a device to which a driver speaks, with a queue at a layout that isn't Ready yet.
func laid(t *testing.T, features uint64, l api.Layout) *Regs {
	t.Helper()
	r := begun(t, features, 3)
	r.QueueSel = 1
	r.Queues[1].Layout = l
	return r
}

// odd: words whose bit 0 is 1; even: those whose isn't.
var (
	odd  = []uint64{1, 3, 0x81, low, 1<<32 + 1, ones}
	even = []uint64{0, 2, 4, 0x80, 1 << 31, low - 1, 1 << 32, ones - 1}
)

// P18.4: a queue whose layout may be is Ready, with what was agreed on; nothing else changes.
func TestReady(t *testing.T) {
	m := made(t)
	for _, features := range []uint64{0, indirect, eventIdx, indirect | eventIdx, ones} {
		before := laid(t, features, layout(1))
		want := with(before, func(r *Regs) {
			r.Queues[1] = queue.Queue{Layout: layout(1), Ready: true, EventIdx: features&(1<<29) > 0, Indirect: features&(1<<28) > 0}
		})
		for _, w := range odd {
			puts(t, m, before, 0x44, w, want)
		}
		loads(t, want, 0x44, 4, 1, true)
		// What was offered, but not agreed on, isn't done.
		for agreed := range uint64(8) {
			agreed <<= 27
			r := with(before, func(r *Regs) { r.Offered, r.Agreed = ones, agreed|version1 })
			puts(t, m, r, 0x44, 1, with(r, func(r *Regs) {
				r.Queues[1] = queue.Queue{Layout: layout(1), Ready: true, EventIdx: agreed&(1<<29) > 0, Indirect: agreed&(1<<28) > 0}
			}))
		}
	}
}

// P18.4: EventIdx and Indirect are as agreed on, whatever they were; how many were fetched and used stays.
func TestReadyOverWhatWas(t *testing.T) {
	m := made(t)
	for _, features := range []uint64{0, indirect, eventIdx, indirect | eventIdx} {
		before := laid(t, features, layout(1))
		before.Queues[1] = queue.Queue{Layout: layout(1), Fetched: 7, Used: 6, EventIdx: true, Indirect: true}
		want := with(before, func(r *Regs) {
			r.Queues[1].Ready, r.Queues[1].EventIdx, r.Queues[1].Indirect = true, features&eventIdx > 0, features&indirect > 0
		})
		puts(t, m, before, 0x44, 1, want)
	}
}

// P18.4: FeaturesOK must be set; no other bit of the status counts.
func TestReadyAsksForFeatures(t *testing.T) {
	m := made(t)
	for bits := range uint32(256) {
		before := with(laid(t, 0, layout(1)), func(r *Regs) { r.Bits = bits })
		if bits&8 == 0 {
			leaves(t, m, before, 0x44, 1)
			continue
		}
		puts(t, m, before, 0x44, 1, with(before, func(r *Regs) { r.Queues[1].Ready = true }))
	}
}

// P18.4: of a layout that may not be nothing changes, by each of its errors, and in another memory or in none.
func TestReadyOfLayouts(t *testing.T) {
	m := made(t)
	good := layout(1)
	change := func(do func(l *api.Layout)) api.Layout {
		l := good
		do(&l)
		return l
	}
	for l, e := range map[api.Layout]api.Errno{
		{}: api.ErrLayout,
		change(func(l *api.Layout) { l.Size = 0 }):         api.ErrLayout,
		change(func(l *api.Layout) { l.Size = 3 }):         api.ErrLayout,
		change(func(l *api.Layout) { l.Size = 512 }):       api.ErrLayout,
		change(func(l *api.Layout) { l.Size = low }):       api.ErrLayout,
		change(func(l *api.Layout) { l.Desc += 8 }):        api.ErrLayout,
		change(func(l *api.Layout) { l.Avail++ }):          api.ErrLayout,
		change(func(l *api.Layout) { l.Used += 2 }):        api.ErrLayout,
		change(func(l *api.Layout) { l.Desc = end - 48 }):  api.ErrPlace,
		change(func(l *api.Layout) { l.Desc = 0 }):         api.ErrPlace,
		change(func(l *api.Layout) { l.Avail = base - 2 }): api.ErrPlace,
		change(func(l *api.Layout) { l.Avail = end - 12 }): api.ErrPlace,
		change(func(l *api.Layout) { l.Used = end - 36 }):  api.ErrPlace,
		change(func(l *api.Layout) { l.Used += 1 << 32 }):  api.ErrPlace,
		change(func(l *api.Layout) { l.Desc += 1 << 63 }):  api.ErrPlace,
		change(func(l *api.Layout) { l.Desc = end - 64 }):  api.OK,
		change(func(l *api.Layout) { l.Avail = end - 14 }): api.OK,
		change(func(l *api.Layout) { l.Used = end - 40 }):  api.OK,
		change(func(l *api.Layout) { l.Size = 1 }):         api.OK,
	} {
		if got := ring.Check(m, l); got != e {
			t.Fatalf("Check of %+v: %d", l, got)
		}
		before := laid(t, indirect|eventIdx, l)
		leaves(t, nil, before, 0x44, 1)
		if e != api.OK {
			leaves(t, m, before, 0x44, 1)
			continue
		}
		puts(t, m, before, 0x44, 1, with(before, func(r *Regs) { r.Queues[1] = queue.Queue{Layout: l, Ready: true, EventIdx: true, Indirect: true} }))
	}
}

// P18.4: of a queue that is Ready already nothing changes, were another layout or other features there by now.
func TestReadyAlready(t *testing.T) {
	m := made(t)
	for _, q := range []queue.Queue{
		{Layout: layout(1), Ready: true, Fetched: 9, Used: 8},
		{Layout: layout(1), Ready: true, Fetched: 9, Used: 8, EventIdx: true},
		{Layout: api.Layout{Size: 3}, Ready: true, Indirect: true},
	} {
		for _, features := range []uint64{0, indirect | eventIdx} {
			before := laid(t, features, layout(1))
			before.Queues[1] = q
			for _, w := range odd {
				leaves(t, m, before, 0x44, w)
			}
		}
	}
}

// P18.4: with bit 0 of v 0 a queue is as it begins, but for its layout, whatever else it is, and whatever the status is.
func TestReadyNoMore(t *testing.T) {
	m := made(t)
	for _, q := range []queue.Queue{
		{Layout: layout(1), Ready: true, Fetched: 9, Used: 8, EventIdx: true, Indirect: true},
		{Layout: layout(1), Fetched: 9, Used: 8, EventIdx: true, Indirect: true},
		{Layout: api.Layout{Size: 3, Desc: 1, Avail: 2, Used: 3}, Ready: true, Indirect: true},
		{},
	} {
		for _, bits := range []uint32{0, 3, 11, 15, 64, 79, 255} {
			before := with(laid(t, indirect|eventIdx, layout(1)), func(r *Regs) { r.Queues[1], r.Bits, r.Pending = q, bits, 3 })
			want := with(before, func(r *Regs) { r.Queues[1] = queue.Queue{Layout: q.Layout} })
			for _, w := range even {
				puts(t, m, before, 0x44, w, want)
				puts(t, nil, before, 0x44, w, want)
			}
		}
	}
}

// P18.4: of queues that there aren't nothing changes; those beside the selected one are left.
func TestReadyOfWhichQueue(t *testing.T) {
	m := made(t)
	before := laid(t, 0, layout(1))
	for i := range before.Queues {
		before.Queues[i] = queue.Queue{Layout: layout(i), Fetched: uint16(i + 1), Ready: i == 2}
	}
	for _, sel := range []uint32{3, 4, 16, 256, 1<<31 + 1, low} {
		other := with(before, func(r *Regs) { r.QueueSel = sel })
		for _, w := range append(odd, even...) {
			leaves(t, m, other, 0x44, w)
		}
	}
	for sel := range uint32(3) {
		chosen := with(before, func(r *Regs) { r.QueueSel = sel })
		puts(t, m, chosen, 0x44, 1, with(chosen, func(r *Regs) { r.Queues[sel].Ready = true }))
		puts(t, m, chosen, 0x44, 0, with(chosen, func(r *Regs) { r.Queues[sel] = queue.Queue{Layout: layout(int(sel))} }))
	}
	for _, w := range append(odd, even...) {
		leaves(t, m, New(1, 0, 0), 0x44, w)
	}
}

// P18.4: a driver takes a queue back, lays it elsewhere, and it is Ready anew; while it is Ready its layout stays.
func TestReadyAgain(t *testing.T) {
	m := made(t)
	r := begun(t, indirect|eventIdx, 1)
	lays(t, m, r, 0, layout(1))
	drive(t, m, r, [2]uint64{0x38, 8}, [2]uint64{0x80, 5}, [2]uint64{0xa4, 5})
	if r.Queues[0].Layout != layout(1) {
		t.Fatalf("the layout: %+v", r.Queues[0].Layout)
	}
	drive(t, m, r, [2]uint64{0x44, 0})
	loads(t, r, 0x44, 4, 0, true)
	lays(t, m, r, 0, layout(2))
	loads(t, r, 0x44, 4, 1, true)
	if q := r.Queues[0]; q != (queue.Queue{Layout: layout(2), Ready: true, EventIdx: true, Indirect: true}) {
		t.Fatalf("the queue: %+v", q)
	}
}
