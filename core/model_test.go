package core

import (
	"math/big"
	"math/rand"
	"reflect"
	"testing"

	"vireo/amo"
	"vireo/api"
	"vireo/bus"
	"vireo/csr"
	"vireo/disk"
	"vireo/inst"
	"vireo/ram"
)

// model: a hart that takes words apart by their bits, and leaves an instruction by a panic where it is a trap.
type model struct {
	b       *bus.Bus
	x       [32]uint64
	pc      uint64
	f       csr.File
	at, len uint64 // what is reserved
	waits   bool
}

// stop is a trap.
type stop struct {
	cause int
	value uint64
}

func (o *model) hart() Hart {
	return Hart{X: o.x, PC: o.pc, CSR: o.f, Held: amo.Set{At: o.at, Len: o.len}, Waits: o.waits}
}

func (o *model) take(h *Hart) {
	o.x, o.pc, o.f, o.at, o.len, o.waits = h.X, h.PC, h.CSR, h.Held.At, h.Held.Len, h.Waits
}

func (o *model) step() {
	o.f.Lines = (o.b.Clint.Lines() | o.b.Plic.Lines()) & 0xa88
	o.f.Time = o.b.Clint.Now
	o.f.Cycle++
	for _, delegated := range []bool{false, true} {
		for _, n := range []int{11, 3, 7, 9, 1, 5} {
			bit := uint64(1) << n
			own := o.f.Mideleg&bit != 0
			if (o.f.Soft|o.f.Lines)&o.f.Mie&bit == 0 || own != delegated {
				continue
			}
			if !own && (o.f.Mode < 3 || o.f.Status&8 != 0) || own && (o.f.Mode == 0 || o.f.Mode == 1 && o.f.Status&2 != 0) {
				o.enter(n, 0, true)
				return
			}
		}
	}
	if o.waits && (o.f.Soft|o.f.Lines)&o.f.Mie == 0 {
		return
	}
	o.waits = false
	if t := o.tries(); t != nil {
		o.enter(t.cause, t.value, false)
		return
	}
	o.f.Instret++
}

func (o *model) enter(cause int, value uint64, interrupt bool) {
	k := &kept{hart: o.hart()}
	k.enters(cause, value, interrupt)
	o.take(&k.hart)
}

func (o *model) tries() (t *stop) {
	defer func() {
		if got := recover(); got != nil {
			s := got.(stop)
			t = &s
		}
	}()
	o.does()
	return nil
}

func trapIf(is bool, cause int, value uint64) {
	if is {
		panic(stop{cause, value})
	}
}

// reach: where an address leads, for a kind.
func (o *model) reach(kind int, va uint64, n uint64) uint64 {
	trapIf(va%n != 0, []int{0, 4, 6}[kind], va)
	fault, access := []int{12, 13, 15}[kind], []int{1, 5, 7}[kind]
	mode, status := uint64(o.f.Mode), o.f.Status
	if kind != 0 && mode == 3 && status>>17&1 == 1 {
		mode = status >> 11 & 3
	}
	if mode == 3 || o.f.Satp>>60 != 8 {
		return va
	}
	trapIf(va>>38 != 0 && va>>38 != 1<<26-1, fault, va)
	table := o.f.Satp & (1<<44 - 1) << 12
	for level := 2; level >= 0; level-- {
		shift := 12 + 9*level
		e, ok := o.b.RAM.Load(table+va>>shift&511*8, 8)
		trapIf(!ok, access, va)
		to := e >> 10 & (1<<44 - 1) << 12
		r, w, x, u, a, d := e>>1&1, e>>2&1, e>>3&1, e>>4&1, e>>6&1, e>>7&1
		trapIf(e&1 == 0 || e>>54 != 0 || w > r, fault, va)
		if r+x == 0 {
			trapIf(u+a+d > 0, fault, va)
			table = to
			continue
		}
		may := []uint64{x, r | x&(status>>19), w & d}[kind]&1 == 1 && a == 1
		if mode == 0 && u == 0 || mode == 1 && u == 1 && (kind == 0 || status>>18&1 == 0) {
			may = false
		}
		low := uint64(1)<<shift - 1
		trapIf(!may || to&low != 0, fault, va)
		return to | va&low
	}
	panic(stop{fault, va})
}

func (o *model) set(rd uint32, w uint64) {
	o.x[rd] = w
	o.x[0] = 0
}

// wrote: n bytes are, of which one may have been reserved.
func (o *model) wrote(at, n uint64) {
	for i := range n {
		if at+i-o.at < o.len {
			o.at, o.len = 0, 0
			return
		}
	}
}

// signed: a word's n lowest bits as a number with a sign.
func signed(w uint64, n int) uint64 { return uint64(int64(w<<(64-n)) >> (64 - n)) }

func (o *model) does() {
	at := o.reach(0, o.pc, 4)
	got, ok := o.b.RAM.Load(at, 4)
	trapIf(!ok, 1, o.pc)
	w := uint32(got)
	rd, f3, rs1, rs2 := w>>7&31, w>>12&7, w>>15&31, w>>20&31
	a, b := o.x[rs1], o.x[rs2]
	number := signed(got>>20, 12)
	stored := signed(got>>25<<5|got>>7&31, 12)
	next := o.pc + 4
	bad := func(is bool) { trapIf(is, 2, uint64(w)) }
	jump := func(to uint64) { trapIf(to%4 != 0, 0, to); next = to }
	switch w & 127 {
	case 0x37:
		o.set(rd, signed(got&^0xfff, 32))
	case 0x17:
		o.set(rd, signed(got&^0xfff, 32)+o.pc)
	case 0x6f:
		to := signed(got>>31<<20|got>>12&255<<12|got>>20&1<<11|got>>21&1023<<1, 21)
		jump(o.pc + to)
		o.set(rd, o.pc+4)
	case 0x67:
		bad(f3 != 0)
		jump((a + number) >> 1 << 1)
		o.set(rd, o.pc+4)
	case 0x63:
		bad(f3 == 2 || f3 == 3)
		is := []bool{a == b, a != b, false, false, int64(a) < int64(b), int64(a) >= int64(b), a < b, a >= b}[f3]
		if is {
			jump(o.pc + signed(got>>31<<12|got>>7&1<<11|got>>25&63<<5|got>>8&15<<1, 13))
		}
	case 0x03:
		bad(f3 == 7)
		n := uint64(1) << (f3 % 4)
		to := o.reach(1, a+number, n)
		v, ok := o.b.Load(to, int(n))
		trapIf(!ok, 5, a+number)
		if f3 < 4 {
			v = signed(v, int(8*n))
		}
		o.set(rd, v)
	case 0x23:
		bad(f3 > 3)
		n := uint64(1) << f3
		to := o.reach(2, a+stored, n)
		trapIf(!o.b.Store(to, int(n), b), 7, a+stored)
		o.wrote(to, n)
	case 0x13, 0x1b:
		o.set(rd, o.byNumber(w, a, number, bad))
	case 0x33, 0x3b:
		o.set(rd, o.byTwo(w, a, b, bad))
	case 0x0f:
		bad(f3 > 1)
	case 0x2f:
		o.atomic(w, a, b, bad)
	case 0x73:
		if f3 == 0 {
			o.alone(w, &next, bad)
		} else {
			o.system(w, a, bad)
		}
	default:
		bad(true)
	}
	o.pc = next
}

func (o *model) byNumber(w uint32, a, n uint64, bad func(bool)) uint64 {
	f3, short := w>>12&7, w&8 != 0
	width, places := 64, uint64(63)
	if short {
		width, places = 32, 31
		bad(f3 != 0 && f3 != 1 && f3 != 5)
	}
	by := n & places
	high := uint64(w) >> 20 &^ places
	switch f3 {
	case 0:
		return signed(a+n, width)
	case 1:
		bad(high != 0)
		return signed(a<<by, width)
	case 2:
		return one(int64(a) < int64(n))
	case 3:
		return one(a < n)
	case 4:
		return a ^ n
	case 5:
		bad(high != 0 && high != 0x400)
		if high == 0 {
			return signed(a<<(64-width)>>(64-width)>>by, width)
		}
		return signed(uint64(int64(signed(a, width))>>by), width)
	case 6:
		return a | n
	}
	return a & n
}

func one(is bool) uint64 {
	if is {
		return 1
	}
	return 0
}

func (o *model) byTwo(w uint32, a, b uint64, bad func(bool)) uint64 {
	f3, f7, short := w>>12&7, w>>25, w&8 != 0
	width, places := 64, uint64(63)
	if short {
		width, places = 32, 31
	}
	noughts := func(v uint64) uint64 { return v << (64 - width) >> (64 - width) }
	if f7 == 1 {
		bad(short && 1 <= f3 && f3 <= 3)
		if !short && f3 <= 3 {
			return product(a, b, f3)
		}
		if f3 == 0 {
			return signed(a*b, 32)
		}
		if f3&1 == 1 {
			a, b = noughts(a), noughts(b)
		} else {
			a, b = signed(a, width), signed(b, width)
		}
		return signed(divided(a, b, f3), width)
	}
	bad(f7 != 0 && f7 != 0x20 || f7 == 0x20 && f3 != 0 && f3 != 5 || short && f3 != 0 && f3 != 1 && f3 != 5)
	switch {
	case f3 == 0 && f7 == 0:
		return signed(a+b, width)
	case f3 == 0:
		return signed(a-b, width)
	case f3 == 1:
		return signed(a<<(b&places), width)
	case f3 == 2:
		return one(int64(a) < int64(b))
	case f3 == 3:
		return one(a < b)
	case f3 == 4:
		return a ^ b
	case f3 == 5 && f7 == 0:
		return signed(noughts(a)>>(b&places), width)
	case f3 == 5:
		return signed(uint64(int64(signed(a, width))>>(b&places)), width)
	case f3 == 6:
		return a | b
	}
	return a & b
}

// product: its low half (f3 0), or its high one: of numbers with their signs (1), of one such and a word (2), of words (3).
func product(a, b uint64, f3 uint32) uint64 {
	x, y := new(big.Int).SetUint64(a), new(big.Int).SetUint64(b)
	if f3 == 1 || f3 == 2 {
		x.SetInt64(int64(a))
	}
	if f3 == 1 {
		y.SetInt64(int64(b))
	}
	z := x.Mul(x, y)
	if f3 != 0 {
		z.Rsh(z, 64)
	}
	return z.And(z, new(big.Int).SetUint64(ones)).Uint64()
}

// divided: the quotient (f3 4, and 5 of words), or the rest (6, and 7 of words).
func divided(a, b uint64, f3 uint32) uint64 {
	if b == 0 {
		return []uint64{ones, ones, a, a}[f3-4]
	}
	x, y := big.NewInt(int64(a)), big.NewInt(int64(b))
	if f3&1 == 1 {
		x.SetUint64(a)
		y.SetUint64(b)
	}
	q, r := new(big.Int).QuoRem(x, y, new(big.Int))
	if f3 >= 6 {
		q = r
	}
	return q.And(q, new(big.Int).SetUint64(ones)).Uint64()
}

func (o *model) atomic(w uint32, a, b uint64, bad func(bool)) {
	f3, rd, what := w>>12&7, w>>7&31, w>>27
	bad(f3 != 2 && f3 != 3)
	n := uint64(1) << f3
	width := int(8 * n)
	kind := 2
	switch what {
	case 2:
		bad(w>>20&31 != 0)
		kind = 1
	case 0, 1, 3, 4, 8, 0xc, 0x10, 0x14, 0x18, 0x1c:
	default:
		bad(true)
	}
	at := o.reach(kind, a, n)
	old, ok := o.b.RAM.Load(at, int(n))
	trapIf(!ok, []int{5, 7}[kind-1], a)
	old = signed(old, width)
	reg := signed(b, width)
	var now uint64
	switch what {
	case 2:
		o.at, o.len = at, n
		o.set(rd, old)
		return
	case 3:
		failed := o.at != at || o.len != n
		if !failed {
			o.b.RAM.Store(at, int(n), b)
		}
		o.at, o.len = 0, 0
		o.set(rd, one(failed))
		return
	case 0:
		now = old + reg
	case 1:
		now = reg
	case 4:
		now = old ^ reg
	case 8:
		now = old | reg
	case 0xc:
		now = old & reg
	default:
		greater, words := what&4 != 0, what&8 != 0
		now = old
		// Signs above keep the order of words, too.
		if words && greater == (reg > old) || !words && greater == (int64(reg) > int64(old)) {
			now = reg
		}
	}
	o.b.RAM.Store(at, int(n), now)
	o.wrote(at, n)
	o.set(rd, old)
}

func (o *model) system(w uint32, a uint64, bad func(bool)) {
	f3, n := w>>12&7, int(w>>20)
	bad(f3 == 4)
	v := a
	if f3 > 4 {
		v = uint64(w >> 15 & 31)
	}
	writes := f3&3 == 1 || w>>15&31 != 0
	bad(!o.f.May(n, writes))
	old, raw := o.f.Read(n), o.f.Read(n)
	if n == 0x344 || n == 0x144 {
		// Of what devices hold up only what programs may not set counts as standing there.
		f := o.f
		f.Lines &= 0xa88 &^ 0x222
		raw = f.Read(n)
	}
	if writes {
		o.f.Write(n, []uint64{0, v, raw | v, raw &^ v}[f3&3])
	}
	o.set(w>>7&31, old)
}

func (o *model) alone(w uint32, next *uint64, bad func(bool)) {
	mode := o.f.Mode
	switch w {
	case 0x73:
		panic(stop{8 + int(mode), 0})
	case 0x100073:
		panic(stop{3, o.pc})
	case 0x30200073:
		bad(mode != 3)
		status := o.f.Status
		o.f.Mode = api.Mode(status >> 11 & 3)
		o.f.Status = status&^0x1888 | status>>4&8 | 0x80
		if o.f.Mode != 3 {
			o.f.Status &^= 1 << 17
		}
		*next = o.f.Mepc
	case 0x10200073:
		bad(mode == 0 || mode == 1 && o.f.Status>>22&1 == 1)
		status := o.f.Status
		o.f.Mode = api.Mode(status >> 8 & 1)
		o.f.Status = status&^0x20122 | status>>4&2 | 0x20
		*next = o.f.Sepc
	case 0x10500073:
		bad(mode != 3 && o.f.Status>>21&1 == 1)
		o.waits = true
	default:
		bad(w>>25 != 9 || w>>7&31 != 0)
		bad(mode == 0 || mode == 1 && o.f.Status>>20&1 == 1)
	}
}

// walk: a hart and a model that go the same way.
type walk struct {
	t      *testing.T
	chance *rand.Rand
	x      *bench
	o      *model
	known  []int
	done   map[int]int
	causes map[uint64]int
}

func newWalk(t *testing.T, seed int64) *walk {
	y := begun(t)
	k := &walk{t: t, chance: rand.New(rand.NewSource(seed)), x: begun(t), o: &model{b: y.h.Bus}, done: map[int]int{}, causes: map[uint64]int{}}
	for n := range 4096 {
		if csr.Known(n) {
			k.known = append(k.known, n)
		}
	}
	k.o.take(k.x.h)
	return k
}

func (k *walk) one(list ...uint64) uint64 { return list[k.chance.Intn(len(list))] }

// rarely: once in n times.
func (k *walk) rarely(n int) bool { return k.chance.Intn(n) == 0 }

// free: the bits of an operation's words that are its parts'.
func free(op int) (uint32, uint32) {
	w, _ := inst.Encode(api.Instr{Op: op})
	mask := uint32(0)
	for bit := range 32 {
		if x, e := inst.Decode(w ^ 1<<bit); e == api.OK && x.Op == op {
			mask |= 1 << bit
		}
	}
	return w, mask
}

// someWord: mostly one of some operation, each as often, with registers among a few.
func (k *walk) someWord() uint32 {
	if k.rarely(20) {
		return k.chance.Uint32() >> k.chance.Intn(32)
	}
	op := 1 + k.chance.Intn(api.LastOp)
	w, mask := free(op)
	parts := k.chance.Uint32()
	if !k.rarely(4) {
		parts &^= 0x18 << 7 & mask // few registers
		parts &^= 0x18 << 15
		if !inst.Loads(op) && op != api.Jalr && mask>>31 == 0 {
			parts &^= 0x18 << 20
		}
	}
	if !k.rarely(3) {
		switch {
		case inst.Loads(op), op == api.Jalr:
			parts &^= 0x007 << 20
			parts = uint32(int32(parts) << 3 >> 3) // near
		case inst.Stores(op):
			parts &^= 7 << 7
		case inst.Branches(op):
			parts &^= 1 << 8
		case op == api.Jal:
			parts &^= 1 << 21
		case inst.Systems(op):
			parts = parts&(1<<20-1) | uint32(k.one(0x300, 0x304, 0x344, 0x144, 0x340, 0x341, uint64(k.known[k.chance.Intn(len(k.known))])))<<20
		}
	}
	return w | parts&mask
}

// somePlace: an address where something is, mostly.
func (k *walk) somePlace() uint64 {
	switch k.chance.Intn(8) {
	case 0:
		return clintAt + k.one(0, 0x4000, 0xbff8, 0xbff0)
	case 1:
		return plicAt + k.one(0, 4, 8, 0x1000, 0x2000, 0x2080, 0x200000, 0x201000, 0x200004)
	case 2:
		return k.one(blkAt, ttyAt) + k.one(0, 0x70, 0x20, 0x100, 0x50, 0x60)
	case 3:
		return k.one(0, end-8, end, base, base-8, ones-7, top, 1<<38, start)
	}
	at := base + uint64(k.chance.Intn(16*page))&^7
	if k.rarely(3) {
		at += k.one(1, 2, 4, 4, 4, 7)
	}
	return at
}

// someFile: system registers such as a program may lay them.
func (k *walk) someFile() csr.File {
	f := csr.File{Mode: api.Mode(k.one(0, 1, 3, 3)), Cycle: k.chance.Uint64(), Instret: k.chance.Uint64(), Lines: k.chance.Uint64() & 0xa88}
	f.Status = k.chance.Uint64() & k.chance.Uint64() & 0x7e19aa
	if f.Status>>11&3 == 2 {
		f.Status |= 1 << 11
	}
	f.Medeleg = k.chance.Uint64() & k.one(0, 0xb3ff)
	f.Mideleg = k.chance.Uint64() & k.one(0, 0x222)
	f.Mie = k.chance.Uint64() & k.chance.Uint64() & k.chance.Uint64() & k.one(0, 0xaaa)
	f.Soft = k.chance.Uint64() & k.chance.Uint64() & k.one(0, 0, 0x222)
	f.Mtvec, f.Stvec = machine+k.one(0, 1), super+k.one(0, 1)
	f.Mcounteren, f.Scounteren = k.chance.Uint64()&7, k.chance.Uint64()&7
	f.Mepc, f.Sepc = k.somePlace()&^3, k.somePlace()&^3
	f.Mcause, f.Scause, f.Mtval, f.Stval = k.chance.Uint64(), k.chance.Uint64(), k.chance.Uint64(), k.chance.Uint64()
	f.Mscratch, f.Sscratch = k.chance.Uint64(), k.chance.Uint64()
	f.Satp = k.one(0, 8<<60|root>>12)
	if k.rarely(50) {
		f.Satp = k.one(8<<60, 9<<60, 8<<60|end>>12)
	}
	return f
}

// both: something is stored in both memories.
func (k *walk) both(at uint64, n int, w uint64) {
	k.x.m.Store(at, n, w)
	k.o.b.RAM.Store(at, n, w)
}

// lay: tables in which most pages of memory are as they are, with some rights, and a few are elsewhere.
func (k *walk) lay() {
	for i := range uint64(512) {
		k.both(root+8*i, 8, 0)
		k.both(mid+8*i, 8, 0)
		k.both(low+8*i, 8, 0)
	}
	k.both(root, 8, k.one(0, 0xcf, 0xdf)) // the devices
	k.both(root+16, 8, entry(mid, "v"))
	k.both(mid, 8, entry(low, "v"))
	for i := range uint64(24) {
		rights := k.chance.Uint64()&k.one(0xff, 0xdf) | 1
		if !k.rarely(3) {
			rights |= 0xcf
		}
		at := base + page*i
		if k.rarely(6) {
			at = k.one(base+page*uint64(k.chance.Intn(24)), blkAt, ttyAt, clintAt+0x4000, 0, plicAt+0x200000)
		}
		k.both(low+8*i, 8, at>>12<<10|rights)
	}
	user := k.one(0, 16)
	k.both(low, 8, entry(base, "vrwxad")|user)
}

// anew: both harts are somewhere, in some state, with a word in front of them.
func (k *walk) anew() {
	h := k.x.h
	h.X[0] = 0
	for n := 1; n < 32; n++ {
		h.X[n] = k.somePlace()
		if k.rarely(4) {
			h.X[n] = k.one(0, 1, ones, top, 1<<31, k.chance.Uint64(), k.chance.Uint64()>>32)
		}
	}
	h.PC = start + 4*uint64(k.chance.Intn(16))
	if k.rarely(25) {
		h.PC = k.somePlace() + k.one(0, 0, 1, 2, 3)
	}
	h.CSR = k.someFile()
	h.Waits = k.rarely(6)
	at := h.X[1+k.chance.Intn(8)]
	h.Held = amo.Set{At: at &^ 3, Len: k.one(0, 4, 4, 8, 8)}
	k.o.take(h)
	for i := range uint64(16) {
		k.both(start+4*i, 4, uint64(k.someWord()))
	}
	k.both(machine, 4, uint64(k.someWord()))
	k.both(super, 4, uint64(k.someWord()))
}

// happens: something from without, to both.
func (k *walk) happens() {
	switch k.chance.Intn(12) {
	case 0:
		n := k.one(1, 5, 1<<40, ones)
		k.x.h.Clint.Tick(n)
		k.o.b.Clint.Tick(n)
	case 1:
		k.x.h.Type(1, 2, 3)
		k.o.b.Type(1, 2, 3)
	case 2:
		n, high := int(k.one(1, 2, 5)), k.rarely(2)
		k.x.h.Plic.Line(n, high)
		k.o.b.Plic.Line(n, high)
	case 3:
		soft, cmp := k.rarely(2), k.one(0, ones, 1<<41)
		k.x.h.Clint.Soft, k.x.h.Clint.Cmp = soft, cmp
		k.o.b.Clint.Soft, k.o.b.Clint.Cmp = soft, cmp
	case 4:
		p := k.x.h.Plic
		p.Prio[1], p.Prio[2], p.Prio[5] = 1, 2, 3
		p.Lets = [2]uint32{uint32(k.one(0, 0x26)), uint32(k.one(0, 0x26))}
		k.x.h.Plic, k.o.b.Plic = p, p
	}
}

// step: both do one, of which it is noted what it was.
func (k *walk) step() {
	k.t.Helper()
	h := k.x.h
	before := *h
	h.Step()
	k.o.step()
	now, want := *h, k.o.hart()
	now.Bus = nil
	if now != want {
		w, _ := h.Fetch(before.PC)
		k.t.Fatalf("at %#x, perhaps behind %#x: %s", before.PC, w, differ(now, want))
	}
	if !ram.Same(k.x.m, k.o.b.RAM) || h.Clint != k.o.b.Clint || h.Plic != k.o.b.Plic {
		k.t.Fatalf("at %#x: the memory differs at %x, the clock is %+v, not %+v, the Plic %+v, not %+v", before.PC, ram.Differ(k.x.m, k.o.b.RAM, 3), h.Clint, k.o.b.Clint, h.Plic, k.o.b.Plic)
	}
	k.follows(&before)
}

// follows: P22.4 and P22.5 of the step that was just done.
func (k *walk) follows(before *Hart) {
	k.t.Helper()
	h := k.x.h
	if h.X[0] != 0 {
		k.t.Fatalf("X[0] is %#x", h.X[0])
	}
	retired := h.CSR.Instret != before.CSR.Instret
	trapped := !retired && !h.Waits
	if trapped && (h.X != before.X || h.Held != (amo.Set{})) {
		k.t.Fatalf("a trap set a register, or left a reservation: %s", differ(*h, *before))
	}
	if trapped && h.CSR.Mode == 3 {
		k.causes[h.CSR.Mcause]++
	} else if trapped {
		k.causes[h.CSR.Scause]++
	}
	w, ok := h.Fetch(before.PC)
	x, e := inst.Decode(w)
	if !retired || !ok || e != api.OK || before.CSR.Satp != 0 {
		return
	}
	k.done[x.Op]++
	if x.CSR != 0xb00 && h.CSR.Cycle != before.CSR.Cycle+1 {
		k.t.Fatalf("Cycle is %d, was %d", h.CSR.Cycle, before.CSR.Cycle)
	}
}

// P22.1 to P22.5: whatever instructions, in whatever state, the hart is as the model.
func TestAsTheModel(t *testing.T) {
	done, causes := map[int]int{}, map[uint64]int{}
	for seed := range int64(30) {
		k := newWalk(t, seed)
		k.done, k.causes = done, causes
		k.lay()
		for n := range 1200 {
			if n%3 == 0 {
				k.anew()
			}
			if n%40 == 0 {
				k.lay()
			}
			k.happens()
			k.step()
		}
		one, two := keepsOf(*k.x.h, k.x.h.Bus), keepsOf(k.o.hart(), k.o.b)
		if not := one.isNot(two); not != "" {
			t.Fatalf("%s", not)
		}
		if !disk.Same(k.x.h.Blk.Disk(), k.o.b.Blk.Disk()) || !reflect.DeepEqual(k.x.h.Blk.Log(), k.o.b.Blk.Log()) {
			t.Fatalf("the disks differ")
		}
	}
	for op := api.Lui; op <= api.LastOp; op++ {
		if done[op] < 5 && op != api.Ecall && op != api.Ebreak {
			t.Errorf("%s was done %d times", inst.Name(op), done[op])
		}
	}
	for _, cause := range []uint64{0, 1, 2, 3, 4, 5, 6, 7, 8, 9, 11, 12, 13, 15, top + 1, top + 3, top + 5, top + 7, top + 9, top + 11} {
		if causes[cause] < 5 {
			t.Errorf("the cause %#x came %d times", cause, causes[cause])
		}
	}
}
