package core

import (
	"fmt"
	"math/rand"
	"testing"

	"vireo/amo"
	"vireo/api"
	"vireo/inst"
)

// none is no reservation.
var none = amo.Set{}

// P22.3: lr: the piece is reserved, and the register gets what stands there, of four bytes with their sign; whatever was reserved before isn't any more.
func TestReserve(t *testing.T) {
	for _, order := range []string{"", ".aq", ".rl", ".aqrl"} {
		for _, rd := range []int{1, 0, 5} {
			for _, c := range []struct {
				name string
				at   uint64
				n    uint64
				want uint64
			}{
				{"lr.w", data, 4, 0x55667788}, {"lr.w", data + 4, 4, 0xffffffff91223344}, {"lr.d", data, 8, 0x9122334455667788}, {"lr.w", end - 4, 4, 0x55667788}, {"lr.d", end - 8, 8, 0x5566778812345678},
			} {
				x := fresh(t)
				x.m.Store(data, 8, 0x9122334455667788)
				x.m.Store(end-8, 8, 0x5566778812345678)
				x.h.X[5] = c.at
				x.does(t, fmt.Sprintf("%s%s x%d,(x5)", c.name, order, rd), func(k *kept) {
					k.hart.Held = amo.Set{At: c.at, Len: c.n}
					if rd != 0 {
						k.hart.X[rd] = c.want
					}
				})
			}
		}
	}
}

// P22.3: sc by a reservation of just its piece: the word is stored, Rd is 0; by any other, or none, Rd is 1; the reservation is used up either way.
func TestConditional(t *testing.T) {
	for _, c := range []struct {
		name string
		n    int
	}{{"sc.w", 4}, {"sc.d", 8}} {
		for _, rd := range []int{1, 0, 5, 7} {
			for _, set := range []amo.Set{
				{At: data, Len: 4}, {At: data, Len: 8}, none, {At: data + 8, Len: uint64(c.n)}, {At: data - 8, Len: uint64(c.n)}, {At: data, Len: 0}, {At: data, Len: 2}, {At: data, Len: 16},
				{At: data + 4, Len: 4}, {At: data + 1, Len: 4}, {At: data - 4, Len: 8}, {At: 0, Len: ones}, {At: data + 1<<32, Len: uint64(c.n)},
			} {
				x := fresh(t)
				x.h.Held = set
				x.h.X[5] = data
				x.does(t, fmt.Sprintf("%s x%d,x7,(x5)", c.name, rd), func(k *kept) {
					k.hart.Held = none
					failed := uint64(1)
					if set.At == data && set.Len == uint64(c.n) {
						failed = 0
						k.holds(data, c.n, filled(7))
					}
					if rd != 0 {
						k.hart.X[rd] = failed
					}
				})
			}
		}
	}
}

// P22.3: sc once more fails: the first one used the reservation up; so does one that failed.
func TestConditionalTwice(t *testing.T) {
	x := fresh(t)
	x.h.X[5], x.h.X[6] = data, data+8
	x.may(t, "lr.d x1,(x5)")
	x.does(t, "sc.d x1,x7,(x5)", func(k *kept) { k.hart.X[1], k.hart.Held = 0, none; k.holds(data, 8, filled(7)) })
	x.does(t, "sc.d x1,x8,(x5)", func(k *kept) { k.hart.X[1] = 1 })
	x.may(t, "lr.w x1,(x5)")
	x.does(t, "sc.w x1,x8,(x6)", func(k *kept) { k.hart.X[1], k.hart.Held = 1, none })
	x.does(t, "sc.w x1,x8,(x5)", func(k *kept) { k.hart.X[1] = 1 })
	x.may(t, "lr.w x1,(x5)")
	x.does(t, "sc.d x1,x8,(x5)", func(k *kept) { k.hart.X[1], k.hart.Held = 1, none })
	x.may(t, "lr.d x1,(x5)")
	x.does(t, "sc.w x1,x8,(x5)", func(k *kept) { k.hart.X[1], k.hart.Held = 1, none })
	// The second reservation is the one that counts.
	x.may(t, "lr.w x1,(x5)")
	x.may(t, "lr.w x1,(x6)")
	x.does(t, "sc.w x1,x8,(x5)", func(k *kept) { k.hart.X[1], k.hart.Held = 1, none })
	x.may(t, "lr.w x1,(x5)")
	x.may(t, "lr.w x1,(x6)")
	x.does(t, "sc.w x1,x8,(x6)", func(k *kept) { k.hart.X[1], k.hart.Held = 0, none; k.holds(data+8, 4, filled(8)) })
}

// P22.3: what comes between: a trap and an interrupt end a reservation, a store to it does, one beside it doesn't.
func TestBetweenReserveAndConditional(t *testing.T) {
	for _, c := range []struct {
		what   string
		line   string
		before func(h *Hart)
		failed uint64
	}{
		{"nothing", "", func(h *Hart) {}, 0},
		{"another instruction", "add x9,x9,x9", func(h *Hart) {}, 0},
		{"a load of it", "lw x9,0(x5)", func(h *Hart) {}, 0},
		{"a store to it", "sw x9,0(x5)", func(h *Hart) {}, 1},
		{"a store of what stands there", "sb x1,0(x5)", func(h *Hart) {}, 1},
		{"a store to its last byte", "sb x9,7(x5)", func(h *Hart) {}, 1},
		{"a store behind it", "sb x9,8(x5)", func(h *Hart) {}, 0},
		{"a store ahead of it", "sd x9,-8(x5)", func(h *Hart) {}, 0},
		{"an atomic one", "amoor.w x9,x0,(x5)", func(h *Hart) {}, 1},
		{"a trap", "ecall", func(h *Hart) {}, 1},
		{"a fence", "fence x0,x0,0", func(h *Hart) {}, 0},
		{"a jump", "jal x9,4", func(h *Hart) {}, 0},
		{"an interrupt", "add x9,x9,x9", func(h *Hart) { h.CSR.Mie, h.CSR.Status, h.Clint.Soft = 8, 8, true }, 1},
		{"an interrupt that isn't taken", "add x9,x9,x9", func(h *Hart) { h.CSR.Mie, h.Clint.Soft = 8, true }, 0},
	} {
		x := fresh(t)
		x.h.X[5] = data
		x.may(t, "lr.d x1,(x5)")
		c.before(x.h)
		if c.line != "" {
			x.here(t, c.line)
			x.h.Step()
		}
		x.h.PC = start + 8
		x.h.CSR.Mie = 0
		x.does(t, "sc.d x2,x7,(x5)", func(k *kept) {
			k.hart.X[2], k.hart.Held = c.failed, none
			if c.failed == 0 {
				k.holds(data, 8, filled(7))
			}
		})
		if t.Failed() {
			t.Fatalf("%s", c.what)
		}
	}
}

// P22.3: the trap of an sc comes ahead of whether it fails, as the one of a store; of an lr it is the one of a load, and nothing is reserved.
func TestTrapsOfReservations(t *testing.T) {
	for _, at := range []uint64{blkAt, ttyAt + 0x100, clintAt + 0x4000, plicAt + 0x200004 + 4, end, 0, top, base - 8} {
		for _, set := range []amo.Set{none, {At: at, Len: 4}, {At: at, Len: 8}} {
			for _, width := range []string{"w", "d"} {
				x := fresh(t)
				x.h.Held = set
				x.h.X[5] = at &^ 7
				x.traps(t, "sc."+width+" x6,x7,(x5)", 7, at&^7)
				x.h.PC, x.h.Held = start, set
				x.traps(t, "lr."+width+" x6,(x5)", 5, at&^7)
				x.h.PC, x.h.Held = start, set
				x.h.X[5] |= 2
				x.traps(t, "sc."+width+" x6,x7,(x5)", 6, at&^7+2)
				x.h.PC, x.h.Held = start, set
				x.traps(t, "lr."+width+" x6,(x5)", 4, at&^7+2)
			}
		}
	}
	// A page that may be read alone: lr may, sc, whose reservation it is, may not.
	x := fresh(t)
	x.tables(1)
	x.code()
	x.maps(7, data, "vra")
	x.h.X[5] = base + 7*page
	x.does(t, "lr.d x6,(x5)", func(k *kept) { k.hart.X[6], _ = k.m.Load(data, 8); k.hart.Held = amo.Set{At: data, Len: 8} })
	x.traps(t, "sc.d x6,x7,(x5)", 15, base+7*page)
	x.h.PC, x.h.CSR.Mode = start, 1
	x.traps(t, "amoadd.d x6,x7,(x5)", 15, base+7*page)
}

// P22.3: each other atomic one of both widths, by hand: what stands then, and what Rd gets.
func TestAtomics(t *testing.T) {
	for _, c := range []struct {
		name       string
		old, reg   uint64
		stands, rd uint64
		wide       uint64 // what stands then of 64 bits; Rd is old
	}{
		{"amoswap", 0x1122334485667788, 0xfedcba9876543210, 0x76543210, 0xffffffff85667788, 0xfedcba9876543210},
		{"amoadd", 0x10000000ffffffff, 2, 1, ones, 0x1000000100000001},
		{"amoxor", 0xff00ff0f0f0f0f0, 0xf0f0f0f0f0f0f0f0, 0, 0xfffffffff0f0f0f0, 0xff00ff0f0f0f0f0 ^ 0xf0f0f0f0f0f0f0f0},
		{"amoand", 0x1234567812345678, 0xffff0000ffff0000, 0x12340000, 0x12345678, 0x1234000012340000},
		{"amoor", 0x1234567812345678, 0xffff0000ffff0000, 0xffff5678, 0x12345678, 0xffff5678ffff5678},
		{"amomin", 0x7000000080000000, 0x80000001, 0x80000000, 0xffffffff80000000, 0x80000001},
		{"amomax", 0x8000000080000000, 0x80000001, 0x80000001, 0xffffffff80000000, 0x80000001},
		{"amominu", 0x8000000000000005, 0x7000000000000006, 5, 5, 0x7000000000000006},
		{"amomaxu", 0x8000000000000005, 0x7000000000000006, 6, 5, 0x8000000000000005},
	} {
		for _, rd := range []int{1, 0, 5, 7} {
			for _, order := range []string{"", ".aq", ".rl", ".aqrl"} {
				x := fresh(t)
				x.m.Store(data, 8, c.old)
				x.h.X[5], x.h.X[7] = data, c.reg
				x.does(t, fmt.Sprintf("%s.w%s x%d,x7,(x5)", c.name, order, rd), func(k *kept) {
					k.holds(data, 4, c.stands)
					if rd != 0 {
						k.hart.X[rd] = c.rd
					}
				})
				y := fresh(t)
				y.m.Store(data, 8, c.old)
				y.h.X[5], y.h.X[7] = data, c.reg
				y.does(t, fmt.Sprintf("%s.d%s x%d,x7,(x5)", c.name, order, rd), func(k *kept) {
					k.holds(data, 8, c.wide)
					if rd != 0 {
						k.hart.X[rd] = c.old
					}
				})
			}
		}
	}
}

// P22.3: of layer 7 what stands and what Rd gets, of any words, at any place of memory; at a device it is a trap.
func TestAtomicsAsTheLayerBelow(t *testing.T) {
	chance := rand.New(rand.NewSource(7))
	x := fresh(t)
	ops := 0
	for op := api.LrW; op <= api.AmomaxuD; op++ {
		if amo.Reserves(op) || amo.Conditional(op) {
			continue
		}
		ops++
		n := inst.Width(op)
		for range 200 {
			at := base + page + uint64(chance.Intn(size-2*page))&^7
			if n == 4 {
				at += 4 * uint64(chance.Intn(2))
			}
			old, reg := chance.Uint64(), chance.Uint64()
			if chance.Intn(4) == 0 {
				old = reg
			}
			x.m.Store(at&^7, 8, old)
			old, _ = x.m.Load(at, n)
			w, _ := inst.Encode(api.Instr{Op: op, Rd: 6, Rs1: 5, Rs2: 7, Aq: chance.Intn(2) == 0, Rl: chance.Intn(2) == 0})
			x.m.Store(start, 4, uint64(w))
			x.h.PC, x.h.X[5], x.h.X[7] = start, at, reg
			x.h.Held = amo.Set{At: at &^ 7, Len: 8}
			stands, _ := amo.New(op, old, reg)
			beside, _ := x.m.Load(at^4, 4)
			x.h.Step()
			if got, _ := x.m.Load(at, n); got != stands || x.h.X[6] != amo.Old(op, old) || x.h.Held != none {
				t.Fatalf("%s of %#x and %#x: %#x stands there, x6 is %#x, %+v is held", inst.Name(op), old, reg, got, x.h.X[6], x.h.Held)
			}
			if got, _ := x.m.Load(at^4, 4); n == 4 && got != beside {
				t.Fatalf("%s: beside it %#x stands", inst.Name(op), got)
			}
		}
		for _, at := range []uint64{blkAt, blkAt + 0x100, ttyAt + 0x70, clintAt, clintAt + 0x4000, plicAt, plicAt + 0x200000} {
			x := fresh(t)
			x.h.X[5] = at
			w, _ := inst.Encode(api.Instr{Op: op, Rd: 6, Rs1: 5, Rs2: 7})
			x.m.Store(start, 4, uint64(w))
			x.trapsThere(t, inst.Name(op), 7, at)
		}
	}
	if ops != 18 {
		t.Errorf("%d operations", ops)
	}
}

// P22.3: an atomic one breaks the reservation of what it writes, and no other.
func TestAtomicsAndReservations(t *testing.T) {
	x := fresh(t)
	x.h.X[5] = data
	x.m.Store(data, 8, 5)
	x.does(t, "amoadd.w x1,x5,(x5)", func(k *kept) { k.hart.X[1] = 5; k.holds(data, 4, data+5) })
	x.h.Held = amo.Set{At: data + 4, Len: 4}
	x.does(t, "amoswap.w x1,x0,(x5)", func(k *kept) { k.hart.X[1] = 0xffffffff80002005; k.holds(data, 4, 0) })
	x.does(t, "amoswap.d x1,x5,(x5)", func(k *kept) { k.hart.X[1], k.hart.Held = 0, none; k.holds(data, 8, data) })
}
