package core

import (
	"fmt"
	"strings"
	"testing"

	"vireo/amo"
	"vireo/api"
)

// P22.3: loads of each width, of memory: with their sign above, or noughts.
func TestLoads(t *testing.T) {
	for _, c := range []struct {
		name string
		off  int
		want uint64
	}{
		{"lb", 0, 0xffffffffffffff88}, {"lb", 7, 0x11}, {"lbu", 0, 0x88}, {"lbu", 7, 0x11}, {"lh", 0, 0x7788}, {"lh", 8, 0xffffffffffff99aa}, {"lhu", 8, 0x99aa}, {"lhu", 2, 0x5566},
		{"lw", 0, 0x55667788}, {"lw", 8, 0xffffffffbbcc99aa}, {"lwu", 8, 0xbbcc99aa}, {"lwu", 4, 0x11223344}, {"ld", 0, 0x1122334455667788}, {"ld", 8, 0xddeeff00bbcc99aa},
	} {
		for _, rd := range []int{6, 0, 5} {
			x := fresh(t)
			x.m.Store(data, 8, 0x1122334455667788)
			x.m.Store(data+8, 8, 0xddeeff00bbcc99aa)
			for _, from := range []int{-2048, -8, 0, 8, 2032} {
				x.h.PC, x.h.X[5] = start, data-uint64(from)
				x.does(t, fmt.Sprintf("%s x%d,%d(x5)", c.name, rd, from+c.off), func(k *kept) {
					if rd != 0 {
						k.hart.X[rd] = c.want
					}
				})
			}
		}
	}
}

// P22.3: stores of each width, to memory: as many of the register's lowest bytes, and none beside.
func TestStores(t *testing.T) {
	for _, c := range []struct {
		name string
		n    int
	}{{"sb", 1}, {"sh", 2}, {"sw", 4}, {"sd", 8}} {
		for off := 0; off < 16; off += c.n {
			x := fresh(t)
			x.h.X[5], x.h.X[7] = data, 0xfedcba9876543210
			x.does(t, fmt.Sprintf("%s x7,%d(x5)", c.name, off), func(k *kept) { k.holds(data+uint64(off), c.n, 0xfedcba9876543210) })
			x.does(t, fmt.Sprintf("%s x0,%d(x5)", c.name, off), func(k *kept) { k.holds(data+uint64(off), c.n, 0) })
			x.does(t, fmt.Sprintf("%s x5,%d(x5)", c.name, -off), func(k *kept) { k.holds(data-uint64(off), c.n, data) })
		}
		x := fresh(t)
		x.h.X[5] = end
		x.does(t, fmt.Sprintf("%s x7,%d(x5)", c.name, -c.n), func(k *kept) { k.holds(end-uint64(c.n), c.n, filled(7)) })
		x.traps(t, c.name+" x7,0(x5)", 7, end)
	}
}

// P22.3: loads and stores of a device's registers: what the bus lets be is done, the rest is a trap.
func TestADevicesRegisters(t *testing.T) {
	x := fresh(t)
	x.h.X[5], x.h.X[6], x.h.X[7] = blkAt, ttyAt, 3
	x.does(t, "lw x1,0(x5)", func(k *kept) { k.hart.X[1] = 0x74726976 })
	x.does(t, "lw x1,8(x6)", func(k *kept) { k.hart.X[1] = 3 })
	x.does(t, "lwu x1,0x100(x5)", func(k *kept) { k.hart.X[1] = count })
	x.does(t, "ld x1,0x100(x5)", func(k *kept) { k.hart.X[1] = count })
	x.does(t, "lb x1,0x100(x5)", func(k *kept) { k.hart.X[1] = count })
	x.does(t, "sw x7,0x70(x6)", func(k *kept) { k.tty.Bits = 3 })
	x.does(t, "lw x1,0x70(x6)", func(k *kept) { k.hart.X[1] = 3 })
	for _, c := range []struct {
		line  string
		cause int
		value uint64
	}{
		{"lb x1,0(x5)", 5, blkAt}, {"lh x1,2(x5)", 5, blkAt + 2}, {"ld x1,0(x5)", 5, blkAt}, {"ld x1,0x70(x5)", 5, blkAt + 0x70},
		{"sb x7,0x70(x5)", 7, blkAt + 0x70}, {"sh x7,0x70(x6)", 7, ttyAt + 0x70}, {"sd x7,0x70(x5)", 7, blkAt + 0x70},
		{"lw x1,2(x5)", 4, blkAt + 2}, {"sw x7,0x71(x5)", 6, blkAt + 0x71}, {"lw x1,-4(x5)", 5, blkAt - 4}, {"sw x7,-4(x5)", 7, blkAt - 4},
	} {
		x.h.PC = start
		x.traps(t, c.line, c.cause, c.value)
	}
	x.h.X[5] = ttyAt + 0x1000
	x.h.PC = start
	x.traps(t, "lw x1,0(x5)", 5, ttyAt+0x1000)
	x.h.PC = start
	x.traps(t, "sw x1,0(x5)", 7, ttyAt+0x1000)
}

// P22.3: the Plic's claim: a load takes the source, one that is a trap doesn't; a load to the first register takes it, too.
func TestTheClaim(t *testing.T) {
	for _, rd := range []int{1, 0} {
		x := fresh(t)
		x.h.Store(plicAt+4, 4, 7)
		x.h.Store(plicAt+0x2000, 4, 2)
		x.h.Plic.Line(1, true)
		x.h.X[5] = plicAt + 0x200004
		x.h.X[7] = 1
		for _, line := range []string{"lb x1,0(x5)", "lh x1,0(x5)", "lr.w x1,(x5)"} {
			x.h.PC = start
			x.traps(t, line, 5, plicAt+0x200004)
		}
		x.h.PC = start
		x.traps(t, "ld x1,0(x5)", 4, plicAt+0x200004)
		for _, line := range []string{"amoswap.w x1,x7,(x5)", "sc.w x1,x7,(x5)", "sb x7,0(x5)"} {
			x.h.PC = start
			x.traps(t, line, 7, plicAt+0x200004)
		}
		x.h.PC = start
		x.does(t, fmt.Sprintf("lw x%d,0(x5)", rd), func(k *kept) {
			k.plic.Waits, k.plic.Serving = 0, 2
			if rd != 0 {
				k.hart.X[rd] = 1
			}
		})
		x.does(t, "lwu x1,0(x5)", func(k *kept) { k.hart.X[1] = 0 })
		x.does(t, "sw x7,0(x5)", func(k *kept) { k.plic.Waits, k.plic.Serving = 2, 0 })
	}
}

// P22.3: the clock: in halves or whole; what a step holds of it is told behind the next one.
func TestTheClock(t *testing.T) {
	x := fresh(t)
	x.h.X[5], x.h.X[6], x.h.X[7] = clintAt+0x4000, clintAt+0xb800, clintAt
	x.does(t, "ld x1,0(x5)", func(k *kept) { k.hart.X[1] = ones })
	x.does(t, "ld x1,0x7f8(x6)", func(k *kept) { k.hart.X[1] = 77 })
	x.does(t, "sw x0,4(x5)", func(k *kept) { k.clint.Cmp = 0xffffffff })
	x.does(t, "sd x1,0(x5)", func(k *kept) { k.clint.Cmp = 77 })
	if x.h.CSR.Lines != 0 {
		t.Errorf("Lines: %#x", x.h.CSR.Lines)
	}
	x.does(t, "sd x0,0x7f8(x6)", func(k *kept) { k.clint.Now = 0 })
	if x.h.CSR.Lines != 0x80 || x.h.CSR.Time != 77 {
		t.Errorf("Lines: %#x, Time %d", x.h.CSR.Lines, x.h.CSR.Time)
	}
	x.does(t, "csrrs x1,0xc01,x0", func(k *kept) { k.hart.X[1] = 0 })
	x.does(t, "sw x5,0(x7)", nil)
	x.h.X[2] = 5
	x.does(t, "sw x2,0(x7)", func(k *kept) { k.clint.Soft = true })
	x.does(t, "lw x1,0(x7)", func(k *kept) { k.hart.X[1] = 1 })
	x.traps(t, "lh x1,0(x7)", 5, clintAt)
}

// P22.3: where nothing is no load and no store may be, of any width.
func TestWhereNothingIs(t *testing.T) {
	for _, at := range []uint64{0, 0x1000, clintAt - 8, clintAt + 0x10000, plicAt + 0x400000, blkAt - 8, ttyAt + 0x1000, base - 8, end, 1 << 32, top, ones - 7} {
		for _, c := range tried {
			x := fresh(t)
			x.h.X[5] = at
			x.traps(t, c.line, refusedOf[c.kind], at)
		}
	}
}

// P22.3: a store breaks a reservation of a byte that it writes: at its first, at its last, not just beside it.
func TestStoresThatBreakAReservation(t *testing.T) {
	for _, c := range []struct {
		name string
		n    uint64
	}{{"sb x7,0(x5)", 1}, {"sh x7,0(x5)", 2}, {"sw x7,0(x5)", 4}, {"sd x7,0(x5)", 8}, {"amoadd.w x0,x7,(x5)", 4}, {"amoswap.d x0,x7,(x5)", 8}, {"amomaxu.w x0,x0,(x5)", 4}} {
		for _, width := range []uint64{4, 8} {
			for at := uint64(held - 16); at < held+24; at += c.n {
				x := fresh(t)
				set := amo.Set{At: held, Len: width}
				x.h.Held = set
				x.h.X[5] = at
				x.here(t, c.name)
				x.h.Step()
				if at < held+width && at+c.n > held {
					set = amo.Set{}
				}
				if x.h.Held != set || x.h.PC != start+4 {
					t.Errorf("%s at %#x: %+v is held", c.name, at, x.h.Held)
				}
			}
		}
	}
}

// P22.3: a store that breaks is the one in memory, not the one at that address: by tables another page may be the same.
func TestReservationsByTables(t *testing.T) {
	x := fresh(t)
	x.tables(1)
	x.code()
	x.maps(7, held, "vrwad")
	x.maps(8, held, "vrwad")
	x.maps(3, data, "vrwad")
	x.h.X[5], x.h.X[6] = base+7*page, base+8*page
	x.does(t, "lr.d x1,(x5)", func(k *kept) { k.hart.X[1], _ = k.m.Load(held, 8); k.hart.Held = amo.Set{At: held, Len: 8} })
	x.h.X[4] = held // its page is another one in memory
	x.does(t, "sd x7,0(x4)", func(k *kept) { k.holds(data, 8, filled(7)) })
	x.does(t, "sb x7,7(x6)", func(k *kept) { k.holds(held+7, 1, filled(7)); k.hart.Held = amo.Set{} })
	x.does(t, "lr.w x1,(x5)", func(k *kept) {
		w, _ := k.m.Load(held, 4)
		k.hart.X[1] = uint64(int32(w))
		k.hart.Held = amo.Set{At: held, Len: 4}
	})
	x.does(t, "sc.w x1,x7,(x6)", func(k *kept) { k.holds(held, 4, filled(7)); k.hart.X[1], k.hart.Held = 0, amo.Set{} })
}

// P22.3: loads break nothing, nor do stores to other parts; a store that is a trap ends it, as each trap does.
func TestWhatBreaksNoReservation(t *testing.T) {
	x := fresh(t)
	x.h.X[5] = held
	for _, c := range tried {
		if c.kind == 1 && !strings.HasPrefix(c.line, "lr") {
			x.h.PC = start
			x.may(t, c.line)
		}
	}
	x.h.X[6] = clintAt + 0x4000
	x.may(t, "sd x7,0(x6)")
	x.may(t, "fence x0,x0,0")
	x.h.Type(1, 2)
	if (x.h.Held != amo.Set{At: held, Len: 8}) {
		t.Errorf("%+v is held", x.h.Held)
	}
	x.traps(t, "sw x7,1(x5)", 6, held+1)
	if (x.h.Held != amo.Set{}) {
		t.Errorf("%+v is held", x.h.Held)
	}
}

// The fourth of the document's examples: a user's program whose table gives it one page stores beyond it.
func TestAStoreBeyondOnesPage(t *testing.T) {
	x := fresh(t)
	x.tables(0)
	x.maps(0, base, "vrwxuad")
	x.h.X[5] = base + page
	x.does(t, "sd x7,-8(x5)", func(k *kept) { k.holds(base+page-8, 8, filled(7)) })
	x.traps(t, "sd x7,0(x5)", 15, base+page)
	if f := x.h.CSR; f.Mcause != 15 || f.Mtval != base+page || f.Mepc != start+4 || f.Mode != api.Machine || f.Status != 0 {
		t.Errorf("%+v", f)
	}
}
