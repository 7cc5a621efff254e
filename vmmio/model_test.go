package vmmio

import (
	"bytes"
	"math"
	"math/rand"
	"slices"
	"testing"

	"vireo/api"
	"vireo/chain"
	"vireo/queue"
	"vireo/ram"
	"vireo/ring"
)

const (
	base = 0x80000000
	ones = math.MaxUint64
	low  = math.MaxUint32
	page = 4096
	size = 4 * page    // of a test's memory
	end  = base + size // of it
	data = base + 2*page
)

// The features' bits, the status' bits and the interrupt's, as the document numbers them.
const (
	version1 = 4294967296
	indirect = 268435456
	eventIdx = 536870912
)

// strange: numbers of bytes that no access has, some of which would be 1, 2, 4 or 8 if they were cut.
var strange = []int{
	math.MinInt, math.MinInt + 1, math.MinInt + 4, math.MinInt + 8, math.MinInt32, -65532, -256, -252, -16, -8, -4, -2, -1, 0, 3, 5, 6, 7, 9, 10, 12, 15, 16, 32, 64,
	257, 258, 260, 264, 65537, 65540, 1<<32 + 1, 1<<32 + 2, 1<<32 + 4, 1<<32 + 8, math.MaxInt32, math.MaxInt - 7, math.MaxInt - 3, math.MaxInt,
}

// widths: numbers of bytes that some access has.
var widths = []int{1, 2, 4, 8}

// far: places beyond all, of which most would be a register's if they were cut.
var far = []uint64{
	4096, 4097, 4100, 4104, 4096 + 0x70, 8192, 1<<16 + 0x70, 1<<31 + 0x70, 1<<32 - 8, 1 << 32, 1<<32 + 0x20, 1<<32 + 0x70, 1<<32 + 0x100, 1<<63 - 4, 1 << 63, 1<<63 + 0x70, 1<<63 + 0x100,
	ones - 4095, ones - 255, ones - 15, ones - 7, ones - 6, ones - 3, ones - 2, ones - 1, ones,
}

func made(t *testing.T) *ram.RAM {
	t.Helper()
	m, e := ram.New(size)
	if e != api.OK || m == nil {
		t.Fatalf("New(%d): %d", size, e)
	}
	return m
}

// filled: a memory with bytes in it none of which is 0.
func filled(t *testing.T) *ram.RAM {
	t.Helper()
	m := made(t)
	row := make([]byte, size)
	for i := range row {
		row[i] = byte(i%251 + 1)
	}
	m.Write(base, row)
	return m
}

// all: what stands in a memory.
func all(t *testing.T, m *ram.RAM) []byte {
	t.Helper()
	row, ok := m.Read(base, m.Size())
	if !ok {
		t.Fatalf("Read of all %d bytes", m.Size())
	}
	return row
}

// layout: of the queue number n of 4 entries, each of its own place.
func layout(n int) api.Layout {
	at := base + 256*uint64(n)
	return api.Layout{Size: 4, Desc: at, Avail: at + 64, Used: at + 128}
}

// queueAt: the queue number n, as far as a driver knows it.
func queueAt(n int) queue.Queue { return queue.Queue{Layout: layout(n)} }

// full: registers in which every part is set, and no two bytes of one word are alike.
func full() *Regs {
	return &Regs{
		ID: 0x04030201, Offered: 0x1817161514131211, Agreed: 0x2827262524232221, DevSel: 1, DrvSel: 1, QueueSel: 1,
		Queues: []queue.Queue{
			{Layout: api.Layout{Size: 8, Desc: 0x3837363534333231, Avail: 0x4847464544434241, Used: 0x5857565554535251}, Ready: true, Fetched: 3, Used: 2, EventIdx: true, Indirect: true},
			{Layout: api.Layout{Size: 16, Desc: 0x6867666564636261, Avail: 0x7877767574737271, Used: 0x8887868584838281}, Fetched: 5, Used: 4, EventIdx: true, Indirect: true},
			{Layout: layout(2), Ready: true},
		},
		Bits: 0x94939241, Pending: 0xa4a3a2a1, Gen: 0xb4b3b2b1, Space: []byte{0xc1, 0xc2, 0xc3, 0xc4, 0xc5, 0xc6, 0xc7, 0xc8, 0xc9, 0xca, 0xcb},
	}
}

// with: a copy of registers, of its own, with some things changed.
func with(r *Regs, change func(r *Regs)) *Regs {
	out := *r
	out.Queues = slices.Clone(r.Queues)
	out.Space = slices.Clone(r.Space)
	change(&out)
	return &out
}

func copied(r *Regs) *Regs { return with(r, func(*Regs) {}) }

func same(a, b *Regs) bool {
	if !slices.Equal(a.Queues, b.Queues) || !bytes.Equal(a.Space, b.Space) {
		return false
	}
	x, y := *a, *b
	x.Queues, x.Space, y.Queues, y.Space = nil, nil, nil, nil
	return [9]uint64{uint64(x.ID), x.Offered, x.Agreed, uint64(x.DevSel), uint64(x.DrvSel), uint64(x.QueueSel), uint64(x.Bits), uint64(x.Pending), uint64(x.Gen)} ==
		[9]uint64{uint64(y.ID), y.Offered, y.Agreed, uint64(y.DevSel), uint64(y.DrvSel), uint64(y.QueueSel), uint64(y.Bits), uint64(y.Pending), uint64(y.Gen)}
}

// is: registers are just these.
func is(t *testing.T, r, want *Regs) {
	t.Helper()
	if !same(r, want) {
		t.Fatalf("registers:\n%+v, not\n%+v", *r, *want)
	}
}

// makes: what is done makes that of the registers.
func makes(t *testing.T, before *Regs, do func(r *Regs), want *Regs) {
	t.Helper()
	r := copied(before)
	do(r)
	if !same(r, want) {
		t.Fatalf("%+v became\n%+v, not\n%+v", *before, *r, *want)
	}
}

// loads: Load tells this, and leaves the registers.
func loads(t *testing.T, before *Regs, at uint64, n int, want uint64, may bool) {
	t.Helper()
	r := copied(before)
	if got, ok := r.Load(at, n); got != want || ok != may {
		t.Fatalf("%+v: Load(%#x, %d): %#x, %v, not %#x, %v", *before, at, n, got, ok, want, may)
	}
	is(t, r, before)
}

// asked is what Store tells.
type asked struct {
	what, of int
	may      bool
}

// stores: Store tells this, and makes that of the registers.
func stores(t *testing.T, m *ram.RAM, before *Regs, at uint64, n int, w uint64, want asked, then *Regs) {
	t.Helper()
	r := copied(before)
	what, of, may := r.Store(m, at, n, w)
	if (asked{what, of, may}) != want || !same(r, then) {
		t.Fatalf("%+v: Store(%#x, %d, %#x): %d, %d, %v, not %+v; then\n%+v, not\n%+v", *before, at, n, w, what, of, may, want, *r, *then)
	}
}

// puts: a write of 4 bytes asks for nothing, and makes that of the registers.
func puts(t *testing.T, m *ram.RAM, before *Regs, at, w uint64, then *Regs) {
	t.Helper()
	stores(t, m, before, at, 4, w, asked{Nothing, 0, true}, then)
}

// leaves: a write of 4 bytes asks for nothing, and changes nothing.
func leaves(t *testing.T, m *ram.RAM, before *Regs, at, w uint64) {
	t.Helper()
	puts(t, m, before, at, w, before)
}

// drive: writes of 4 bytes, one behind the other, as a driver does them.
func drive(t *testing.T, m *ram.RAM, r *Regs, pairs ...[2]uint64) {
	t.Helper()
	for _, p := range pairs {
		if _, _, ok := r.Store(m, p[0], 4, p[1]); !ok {
			t.Fatalf("Store(%#x, 4, %#x): false", p[0], p[1])
		}
	}
}

// begun: registers of a device to which a driver speaks: all the features that it offers are agreed on, and it is Live.
func begun(t *testing.T, offered uint64, queues int) *Regs {
	t.Helper()
	r := New(9, offered, queues)
	drive(t, nil, r, [2]uint64{0x70, 1}, [2]uint64{0x70, 3}, [2]uint64{0x20, r.Offered % version1}, [2]uint64{0x24, 1}, [2]uint64{0x20, r.Offered / version1}, [2]uint64{0x70, 11}, [2]uint64{0x70, 15})
	if r.Bits != 15 {
		t.Fatalf("Status: %d", r.Bits)
	}
	return r
}

// lays: a driver lays a queue, and makes it Ready.
func lays(t *testing.T, m *ram.RAM, r *Regs, n int, l api.Layout) {
	t.Helper()
	drive(t, m, r, [2]uint64{0x30, uint64(n)}, [2]uint64{0x38, uint64(l.Size)},
		[2]uint64{0x80, l.Desc % version1}, [2]uint64{0x84, l.Desc / version1}, [2]uint64{0x90, l.Avail % version1}, [2]uint64{0x94, l.Avail / version1},
		[2]uint64{0xa0, l.Used % version1}, [2]uint64{0xa4, l.Used / version1}, [2]uint64{0x44, 1})
	if q := r.Queues[n]; q.Layout != l || !q.Ready {
		t.Fatalf("the queue %d: %+v", n, q)
	}
}

// give: a driver offers a chain of one descriptor a length, behind those that it did; one of a length 0 lies beyond memory.
func give(m *ram.RAM, q queue.Queue, lengths ...uint32) {
	l := q.Layout
	w, _ := m.Load(l.Avail+2, 2)
	for _, n := range lengths {
		i := w % uint64(l.Size)
		d := api.Desc{Addr: data, Len: n, Flags: api.FlagWrite}
		if n == 0 {
			d = api.Desc{Addr: end, Len: 1}
		}
		m.Write(l.Desc+16*i, ring.Bytes(d))
		m.Store(l.Avail+4+2*i, 2, i)
		w++
	}
	m.Store(l.Avail+2, 2, w)
}

// used: so many chains were told to be used, of a queue that began at 0.
func used(t *testing.T, m *ram.RAM, q queue.Queue, want int) {
	t.Helper()
	if w, _ := m.Load(q.Layout.Used+2, 2); int(w) != want || int(q.Used) != want {
		t.Fatalf("%d were told to be used, the queue says %d; not %d", w, q.Used, want)
	}
}

// player: a device that keeps the chains it is asked with, and does of each what it is told; without that it writes as many bytes as there is room for.
type player struct {
	chains []chain.Chain
	does   func(n int, c chain.Chain) (uint32, bool) // n: how many it was asked with ahead of this one
}

func (p *player) Use(c chain.Chain) (uint32, bool) {
	n := len(p.chains)
	p.chains = append(p.chains, c)
	if p.does != nil {
		return p.does(n, c)
	}
	_, room := c.Sizes()
	return uint32(room), true
}

// The model lays what is read into bytes at places, takes words' halves and bits by quotients and rests, and keeps the table's rows apart.

func modelMay(at uint64, n int) bool {
	if at < 256 {
		return n == 4 && at%4 == 0
	}
	return at < 4096 && slices.Contains(widths, n) && (at-256)%uint64(n) == 0 && at+uint64(n) <= 4096
}

func hasBit(w, bit uint64) bool { return w/bit%2 == 1 }

// cells: the bytes of all places.
func cells(r *Regs) []byte {
	out := make([]byte, 4096)
	lay := func(at int, w uint64) {
		for i := range 4 {
			out[at+i] = byte(w % 256)
			w /= 256
		}
	}
	lay(0, 0x74726976)
	lay(4, 2)
	lay(8, uint64(r.ID))
	lay(12, 0x6f657276)
	switch r.DevSel {
	case 0:
		lay(16, r.Offered%version1)
	case 1:
		lay(16, r.Offered/version1)
	}
	if int(r.QueueSel) < len(r.Queues) {
		lay(0x34, 256)
		if r.Queues[r.QueueSel].Ready {
			lay(0x44, 1)
		}
	}
	lay(0x60, uint64(r.Pending))
	lay(0x70, uint64(r.Bits))
	lay(0xfc, uint64(r.Gen))
	copy(out[256:], r.Space)
	return out
}

func modelLoad(r *Regs, at uint64, n int) (uint64, bool) {
	if !modelMay(at, n) {
		return 0, false
	}
	row, w := cells(r), uint64(0)
	for i := n - 1; i >= 0; i-- {
		w = w*256 + uint64(row[at+uint64(i)])
	}
	return w, true
}

// modelStore: what the registers are then, and what is told.
func modelStore(m *ram.RAM, before *Regs, at uint64, n int, w uint64) (*Regs, asked) {
	r := copied(before)
	if !modelMay(at, n) {
		return r, asked{}
	}
	v := w % version1
	switch at {
	case 0x14:
		r.DevSel = uint32(v)
	case 0x24:
		r.DrvSel = uint32(v)
	case 0x30:
		r.QueueSel = uint32(v)
	case 0x20:
		modelAgree(r, v)
	case 0x50:
		if v < uint64(len(r.Queues)) && hasBit(uint64(r.Bits), 4) && !hasBit(uint64(r.Bits), 64) {
			return r, asked{2, int(v), true}
		}
	case 0x64:
		left := uint64(0)
		for bit := uint64(1); bit < version1; bit *= 2 {
			if hasBit(uint64(r.Pending), bit) && !hasBit(v, bit) {
				left += bit
			}
		}
		r.Pending = uint32(left)
	case 0x70:
		if v == 0 {
			modelReset(r)
			return r, asked{1, 0, true}
		}
		modelStatus(r, v)
	default:
		if int(r.QueueSel) < len(r.Queues) {
			modelQueue(m, r, &r.Queues[r.QueueSel], at, v)
		}
	}
	return r, asked{0, 0, true}
}

func modelReset(r *Regs) {
	r.Agreed, r.DevSel, r.DrvSel, r.QueueSel, r.Bits, r.Pending = 0, 0, 0, 0, 0, 0
	for i := range r.Queues {
		r.Queues[i] = queue.Queue{}
	}
}

func modelAgree(r *Regs, v uint64) {
	switch {
	case hasBit(uint64(r.Bits), 8):
	case r.DrvSel == 0:
		r.Agreed = r.Agreed/version1*version1 + v
	case r.DrvSel == 1:
		r.Agreed = r.Agreed%version1 + v*version1
	}
}

// settled: bit 32 is among the features agreed on, and none that wasn't offered.
func settled(r *Regs) bool {
	for i := range 64 {
		if bit := uint64(1) << i; hasBit(r.Agreed, bit) && !hasBit(r.Offered, bit) {
			return false
		}
	}
	return hasBit(r.Agreed, version1)
}

func modelStatus(r *Regs, v uint64) {
	bits := uint64(r.Bits)
	for _, bit := range []uint64{1, 2, 128, 8, 4} {
		if !hasBit(v, bit) || hasBit(bits, bit) || bit == 8 && !settled(r) || bit == 4 && !hasBit(bits, 8) {
			continue
		}
		bits += bit
	}
	r.Bits = uint32(bits)
}

func modelQueue(m *ram.RAM, r *Regs, q *queue.Queue, at, v uint64) {
	l := q.Layout
	switch {
	case at == 0x44 && v%2 == 0:
		*q = queue.Queue{Layout: l}
		return
	case q.Ready:
		return
	case at == 0x44:
		if hasBit(uint64(r.Bits), 8) && ring.Check(m, l) == api.OK {
			q.Ready, q.EventIdx, q.Indirect = true, hasBit(r.Agreed, eventIdx), hasBit(r.Agreed, indirect)
		}
		return
	case at == 0x38:
		l.Size = int(v)
	case at == 0x80:
		l.Desc = l.Desc/version1*version1 + v
	case at == 0x84:
		l.Desc = l.Desc%version1 + v*version1
	case at == 0x90:
		l.Avail = l.Avail/version1*version1 + v
	case at == 0x94:
		l.Avail = l.Avail%version1 + v*version1
	case at == 0xa0:
		l.Used = l.Used/version1*version1 + v
	case at == 0xa4:
		l.Used = l.Used%version1 + v*version1
	}
	q.Layout = l
}

// modelServe: what the registers, a queue and its memory are behind a Serve: queue.Serve does the queue's part.
func modelServe(m *ram.RAM, r *Regs, n int, p *player) {
	if !hasBit(uint64(r.Bits), 4) || hasBit(uint64(r.Bits), 64) || n < 0 || n >= len(r.Queues) {
		return
	}
	tells, e := r.Queues[n].Serve(m, p.Use)
	if tells && r.Pending%2 == 0 {
		r.Pending++
	}
	if e == api.OK {
		return
	}
	if !hasBit(uint64(r.Bits), 64) {
		r.Bits += 64
	}
	if hasBit(uint64(r.Bits), 4) && !hasBit(uint64(r.Pending), 2) {
		r.Pending += 2
	}
}

// asModel: Load and Store are what the model says.
func asModel(t *testing.T, m *ram.RAM, r *Regs, at uint64, n int, w uint64) {
	t.Helper()
	got, may := modelLoad(r, at, n)
	loads(t, r, at, n, got, may)
	then, told := modelStore(m, r, at, n, w)
	stores(t, m, r, at, n, w, told, then)
}

// What comes by chance.

// someWord: few bits, such as a status or a number of a queue, or many, with bits beyond the 32 lowest or without.
func someWord(chance *rand.Rand) uint64 {
	switch chance.Intn(6) {
	case 0:
		return chance.Uint64() >> chance.Intn(64)
	case 1:
		return uint64(chance.Intn(256)) + uint64(chance.Uint32())<<32
	case 2:
		return 1 << chance.Intn(33)
	}
	return uint64(chance.Intn(18))
}

// places: those below 100 (hexadecimal) of which something is told.
var places = []uint64{
	0, 4, 8, 0xc, 0x10, 0x14, 0x20, 0x24, 0x30, 0x34, 0x38, 0x44, 0x50, 0x60, 0x64, 0x70, 0x80, 0x84, 0x90, 0x94, 0xa0, 0xa4, 0xfc,
}

func somePlace(chance *rand.Rand) uint64 {
	switch chance.Intn(12) {
	case 0:
		return uint64(chance.Intn(4200))
	case 1:
		return 256 + uint64(chance.Intn(16))
	case 2:
		return far[chance.Intn(len(far))]
	case 3:
		return chance.Uint64() >> chance.Intn(64)
	}
	return places[chance.Intn(len(places))]
}

func someWidth(chance *rand.Rand) int {
	switch chance.Intn(16) {
	case 0:
		return strange[chance.Intn(len(strange))]
	case 1, 2:
		return widths[chance.Intn(len(widths))]
	}
	return 4
}

// somePair: an access of a driver that mostly knows what it does, with features of bits 0 to 2, 28, 29 and 32, and queues of 4.
func somePair(chance *rand.Rand) (uint64, uint64) {
	l := layout(chance.Intn(4))
	some := [][2]uint64{
		{0x70, []uint64{1, 3, 8, 11, 11, 15, 15, 15, 4, 128, 79, 64, 16}[chance.Intn(13)]},
		{0x14, uint64(chance.Intn(3))}, {0x24, uint64(chance.Intn(3))}, {0x24, 1}, {0x30, uint64(chance.Intn(4))},
		{0x20, []uint64{0, 1, 1, 1, 2, 4, indirect, eventIdx, indirect + eventIdx, indirect + eventIdx + 1}[chance.Intn(10)]},
		{0x38, []uint64{1, 2, 4, 4, 4, 8, 3, 0}[chance.Intn(8)]},
		{0x80, l.Desc}, {0x84, 0}, {0x90, l.Avail}, {0x94, 0}, {0xa0, l.Used}, {0xa4, 0}, {0x44, 1}, {0x44, uint64(chance.Intn(4))},
		{0x50, uint64(chance.Intn(4))}, {0x64, uint64(chance.Intn(4))},
	}
	if chance.Intn(60) == 0 {
		return 0x70, 0
	}
	p := some[chance.Intn(len(some))]
	return p[0], p[1]
}

// someRegs: of a state that may or may not come by accesses.
func someRegs(chance *rand.Rand) *Regs {
	few := func() uint64 {
		return uint64(chance.Intn(8)) + uint64(chance.Intn(4))<<28 + uint64(chance.Intn(4))<<32
	}
	r := &Regs{
		ID: chance.Uint32(), Offered: few(), Agreed: few(), DevSel: uint32(chance.Intn(4)), DrvSel: uint32(chance.Intn(4)), QueueSel: uint32(chance.Intn(4)),
		Bits: uint32(chance.Intn(256)), Pending: uint32(chance.Intn(8)), Gen: chance.Uint32(), Queues: make([]queue.Queue, chance.Intn(4)), Space: make([]byte, chance.Intn(20)),
	}
	chance.Read(r.Space)
	for i := range r.Queues {
		r.Queues[i] = queue.Queue{Layout: layout(chance.Intn(3)), Ready: chance.Intn(2) == 0, Fetched: uint16(chance.Intn(3)), Used: uint16(chance.Intn(3)), EventIdx: chance.Intn(2) == 0, Indirect: chance.Intn(2) == 0}
		if chance.Intn(4) == 0 {
			r.Queues[i].Layout.Used = chance.Uint64()
		}
	}
	switch chance.Intn(8) {
	case 0:
		r.DevSel, r.DrvSel, r.QueueSel = low-uint32(chance.Intn(2)), low-uint32(chance.Intn(2)), low-uint32(chance.Intn(2))
	case 1:
		r.Offered, r.Agreed, r.Bits, r.Pending = chance.Uint64(), chance.Uint64(), chance.Uint32(), chance.Uint32()
	}
	return r
}
