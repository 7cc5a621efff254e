package bus

import (
	"math/rand"
	"testing"

	"vireo/blk"
	"vireo/clint"
	"vireo/disk"
	"vireo/plic"
	"vireo/ram"
	"vireo/tty"
)

// model: a bus' parts, each by itself, with nothing between them but what the chapter says.
type model struct {
	m     *ram.RAM
	clint clint.Clint
	plic  plic.Plic
	blk   *blk.Blk
	tty   *tty.TTY
}

func modelOf(m *ram.RAM, d *disk.Disk, name string) *model {
	return &model{m: m, clint: clint.Clint{Cmp: ones}, blk: blk.New(m, d, name), tty: tty.New(m)}
}

func (o *model) keeps() *kept { return keepsOf(o.m, o.clint, o.plic, o.blk, o.tty) }

func (o *model) load(at uint64, n int) (uint64, bool) {
	part, place := partOf(o.m.Size(), at, n)
	switch part {
	case 1:
		return o.m.Load(at, n)
	case 2:
		return o.clint.Load(place, n)
	case 3:
		return o.plic.Load(place, n)
	case 4:
		return o.blk.Regs.Load(place, n)
	case 5:
		return o.tty.Regs.Load(place, n)
	}
	return 0, false
}

func (o *model) store(at uint64, n int, w uint64) bool {
	part, place := partOf(o.m.Size(), at, n)
	switch part {
	case 1:
		return o.m.Store(at, n, w)
	case 2:
		return o.clint.Store(place, n, w)
	case 3:
		return o.plic.Store(place, n, w)
	case 4:
		what, q, ok := o.blk.Regs.Store(o.m, place, n, w)
		if what == 2 {
			o.blk.Notified(q)
		}
		o.wire()
		return ok
	case 5:
		what, q, ok := o.tty.Regs.Store(o.m, place, n, w)
		if what == 2 {
			o.tty.Notified(q)
		}
		o.wire()
		return ok
	}
	return false
}

func (o *model) typed(data []byte) int {
	came := o.tty.Type(data...)
	o.wire()
	return came
}

func (o *model) wire() {
	o.plic.Line(1, o.blk.Pending != 0)
	o.plic.Line(2, o.tty.Pending != 0)
}

// walk: a bus and a model that go the same way.
type walk struct {
	t      *testing.T
	chance *rand.Rand
	x      *bench
	o      *model
}

func newWalk(t *testing.T, seed int64) *walk {
	m := memory(t, size)
	m.Write(base, pattern(size, 100))
	d, _ := disk.New(count, false)
	d.Fill(pattern(count*sector, 0))
	return &walk{t, rand.New(rand.NewSource(seed)), fresh(t), modelOf(m, d, "a disk")}
}

// one: one of some numbers.
func (k *walk) one(list ...uint64) uint64 { return list[k.chance.Intn(len(list))] }

func (k *walk) store(at uint64, n int, w uint64) {
	k.t.Helper()
	if got, want := k.x.b.Store(at, n, w), k.o.store(at, n, w); got != want {
		k.t.Fatalf("Store(%#x, %d, %#x): %v, not %v", at, n, w, got, want)
	}
}

func (k *walk) load(at uint64, n int) uint64 {
	k.t.Helper()
	w, ok := k.x.b.Load(at, n)
	if want, is := k.o.load(at, n); w != want || ok != is {
		k.t.Fatalf("Load(%#x, %d): %#x, %v, not %#x, %v", at, n, w, ok, want, is)
	}
	return w
}

// someRequest: a request to the disk is laid and offered, in one of a few ways.
func (k *walk) someRequest() {
	n := uint64(k.chance.Intn(20))
	begin := begins + 16*n
	k.store(begin, 8, k.one(0, 0, 1, 1, 4, 8, 77))
	k.store(begin+8, 8, k.one(0, 1, 2, 3, 4))
	k.chain(diskQueue, [][3]uint64{{begin, 16, 0}, {data + page*n, k.one(sector, sector, 2*sector, 20), k.one(0, 2)}, {ends + n, 1, 2}})
}

// chain: a chain is laid behind the ones before, and offered.
func (k *walk) chain(q int, list [][3]uint64) {
	first := uint64(k.chance.Intn(16)) * 4
	for i, s := range list {
		at := table(q) + 16*(first+uint64(i))
		flags := s[2]
		if i+1 < len(list) {
			flags |= 1
		}
		k.store(at, 8, s[0])
		k.store(at+8, 8, s[1]|flags<<32|(first+uint64(i)+1)<<48)
	}
	next := k.load(avail(q)+2, 2)
	k.store(avail(q)+4+2*(next%entries), 2, first)
	k.store(avail(q)+2, 2, next+1)
}

// begins: a driver begins a device.
func (k *walk) begins(device uint64) {
	w := func(at, v uint64) { k.store(device+at, 4, v) }
	w(status, 0)
	w(status, 3)
	w(0x24, 0)
	w(0x20, k.one(0, indirect, eventIdx, indirect|eventIdx))
	w(0x24, 1)
	w(0x20, 1)
	w(status, 11)
	for _, q := range []int{diskQueue, receive, transmit} {
		of, number := deviceOf(q)
		if of != device {
			continue
		}
		k.store(avail(q), 4, 0)
		k.store(used(q), 4, 0)
		w(0x30, number)
		w(0x38, entries)
		w(0x80, table(q))
		w(0x84, 0)
		w(0x90, avail(q))
		w(0x94, 0)
		w(0xa0, used(q))
		w(0xa4, 0)
		w(0x44, 1)
	}
	w(status, 15)
}

// somePlace: a place of some part, mostly where something stands.
func (k *walk) somePlace() uint64 {
	switch k.chance.Intn(8) {
	case 0:
		return clintAt + k.one(0, 4, 0x4000, 0x4004, 0xbff8, 0xbffc, uint64(k.chance.Intn(0x10000)))
	case 1, 2:
		return plicAt + k.one(4, 8, 12, 0x1000, 0x2000, 0x2080, 0x200000, 0x201000, 0x200004, 0x201004, uint64(k.chance.Intn(0x400000)))
	case 3, 4:
		return blkAt + k.one(status, notify, intAck, intStatus, 0x10, 0x44, 0x100, uint64(k.chance.Intn(0x1000)))
	case 5, 6:
		return ttyAt + k.one(status, notify, intAck, intStatus, 0x10, 0x44, 0x100, uint64(k.chance.Intn(0x1000)))
	}
	return base + uint64(k.chance.Intn(size+page))
}

// step: something happens to both.
func (k *walk) step() {
	k.t.Helper()
	switch k.chance.Intn(24) {
	case 0:
		k.store(k.somePlace(), int(k.one(4, 4, 4, 1, 2, 8, 3, 0)), k.one(0, 1, 2, 3, 6, 15, ones, k.chance.Uint64()))
	case 1:
		k.load(k.somePlace(), int(k.one(4, 4, 4, 1, 2, 8, 3, 0)))
	case 2:
		if k.chance.Intn(8) == 0 {
			k.begins(k.one(blkAt, ttyAt))
		}
	case 3, 4, 5:
		k.someRequest()
	case 6, 7, 8:
		k.store(blkAt+notify, 4, 0)
	case 9, 10:
		k.chain(receive, [][3]uint64{{data + page*uint64(k.chance.Intn(20)), k.one(0, 1, 5, 100), 2}, {data, 3, 2}})
	case 11, 12:
		k.chain(transmit, [][3]uint64{{data + page*uint64(k.chance.Intn(20)), k.one(0, 1, 5, 100), 0}, {data, 3, k.one(0, 2)}})
	case 13, 14, 15:
		k.store(ttyAt+notify, 4, k.one(0, 1, 1, 2))
	case 16, 17:
		list := pattern(k.chance.Intn(120), k.chance.Intn(99))
		if got, want := k.x.b.Type(list...), k.o.typed(list); got != want {
			k.t.Fatalf("Type of %d: %d, not %d", len(list), got, want)
		}
	case 18:
		k.store(k.one(blkAt, ttyAt)+intAck, 4, k.one(1, 1, 2, 3))
	case 19:
		c := k.one(0, 1)
		if n := k.load(claim(c), 4); k.chance.Intn(4) > 0 {
			k.store(claim(c), 4, n)
		}
	case 20:
		k.store(claim(k.one(0, 1)), 4, k.one(1, 2, 3))
	case 21:
		n := k.one(0, 1, 1<<40, ones)
		k.x.b.Clint.Tick(n)
		k.o.clint.Tick(n)
	case 22:
		n := k.one(0, 1, 2)
		k.x.d.Fail(n)
		k.o.blk.Disk().Fail(n)
	case 23:
		k.poke()
	}
}

// poke: something that comes to a device by its own calls, of which the bus isn't told.
func (k *walk) poke() {
	switch k.chance.Intn(40) {
	case 0:
		k.x.b.Blk.Raise(2)
		k.o.blk.Raise(2)
	case 1:
		k.x.b.TTY.Tell(1, 2, 3)
		k.o.tty.Tell(1, 2, 3)
	case 2:
		k.x.b.Blk.Break()
		k.o.blk.Break()
	case 3:
		k.x.b.TTY.Notified(0)
		k.o.tty.Notified(0)
	}
}

// same: all answers and all that is kept are alike.
func (k *walk) same() {
	k.t.Helper()
	k.x.is(k.t, k.o.keeps())
	if got, want := k.x.b.Lines(), k.o.clint.Lines()|k.o.plic.Lines(); got != want {
		k.t.Fatalf("Lines: %#x, not %#x", got, want)
	}
}

// P21.1 to P21.4: whatever comes in whatever order, the bus is as its parts are by themselves.
func TestAsTheModel(t *testing.T) {
	served, seen, shown := 0, map[uint64]int{}, 0
	for seed := range int64(40) {
		k := newWalk(t, seed)
		for _, at := range []uint64{4, 8} {
			k.store(plicAt+at, 4, k.one(1, 2, 7))
		}
		k.store(plicAt+0x2000, 4, k.one(2, 4, 6))
		k.store(plicAt+0x2080, 4, k.one(2, 4, 6))
		k.begins(blkAt)
		k.begins(ttyAt)
		for range 300 {
			k.step()
			k.same()
			seen[k.x.b.Lines()]++
		}
		got, want := k.x.b.Blk.Log(), k.o.blk.Log()
		if len(got) != len(want) {
			t.Fatalf("%d requests were served, not %d", len(got), len(want))
		}
		for i := range got {
			if got[i] != want[i] {
				t.Fatalf("the request %d was %+v, not %+v", i, got[i], want[i])
			}
		}
		served += len(got)
		shown += len(k.x.b.TTY.Output())
	}
	if served < 300 || shown < 3000 || len(seen) < 8 {
		t.Errorf("%d requests were served, %d bytes transmitted, the lines were %v", served, shown, seen)
	}
}
