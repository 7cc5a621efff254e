package core

import (
	"fmt"
	"testing"

	"vireo/api"
)

// P22.2, P22.3: a fetch at a place that isn't divided by 4: the trap has the place, wherever that is.
func TestFetchAtACrookedPlace(t *testing.T) {
	for _, at := range []uint64{start, base, end - 4, end, blkAt, clintAt, plicAt + 0x200004, 0, ones - 3, 1 << 40} {
		for off := uint64(1); off < 4; off++ {
			for _, mode := range []api.Mode{0, 1, 3} {
				x := fresh(t)
				x.h.CSR.Mode = mode
				x.h.PC = at + off
				x.trapsThere(t, fmt.Sprintf("at %#x", at+off), 0, at+off)
				if x.h.CSR.Mepc != at || x.h.CSR.Mtval != at+off || x.h.PC != machine {
					t.Errorf("at %#x: Mepc %#x", at+off, x.h.CSR.Mepc)
				}
			}
		}
	}
	// A crooked place is told ahead of what the tables say.
	x := fresh(t)
	x.tables(1)
	x.h.PC = base + 2
	x.trapsThere(t, "crooked", 0, base+2)
}

// P22.3: outside of the memory, and at a device, there is no instruction, and nobody is asked for one.
func TestFetchWhereNoMemoryIs(t *testing.T) {
	for _, at := range []uint64{
		0, 4, base - 4, end, end + 4, 1<<32 + base, top + base, ones - 3,
		clintAt, clintAt + 0x4000, clintAt + 0xbff8, plicAt + 4, plicAt + 0x200004, plicAt + 0x201004, blkAt, blkAt + 0x100, ttyAt,
	} {
		for _, mode := range []api.Mode{0, 1, 3} {
			x := fresh(t)
			// What stands there would be the word of an instruction, and a claim would be seen.
			x.h.Clint.Cmp, x.h.Clint.Now = 0x00500093, 0x00500093
			x.h.Store(plicAt+4, 4, 3)
			x.h.Store(plicAt+0x2000, 4, 2)
			x.h.Store(plicAt+0x2080, 4, 2)
			x.h.Plic.Line(1, true)
			x.h.CSR.Mode = mode
			x.h.PC = at
			x.trapsThere(t, fmt.Sprintf("at %#x", at), 1, at)
		}
	}
}

// P22.3: the first and the last word of memory are instructions; behind the last there is none.
func TestFetchAtTheEnds(t *testing.T) {
	x := fresh(t)
	x.h.PC = base
	x.does(t, "addi x1,x0,1", func(k *kept) { k.hart.X[1] = 1 })
	x.h.PC = end - 4
	x.does(t, "addi x1,x0,2", func(k *kept) { k.hart.X[1] = 2 })
	x.trapsThere(t, "behind the end", 1, end)
}

// P22.3: behind the last address comes the first one.
func TestPCWraps(t *testing.T) {
	const last = ones - 3
	for _, c := range []struct {
		line string
		x1   uint64
		pc   uint64
	}{
		{"addi x1,x0,9", 9, 0}, {"jal x1,8", 0, 4}, {"jal x1,-4", 0, last - 4}, {"auipc x1,1", 0xffc, 0}, {"auipc x1,-1", last - 0x1000, 0},
		{"beq x0,x0,4", filled(1), 0}, {"beq x0,x0,16", filled(1), 12}, {"bne x0,x0,16", filled(1), 0}, {"fence x0,x0,0", filled(1), 0}, {"jalr x1,x0,-8", 0, ones - 7},
	} {
		x := fresh(t)
		x.tables(1)
		x.m.Store(root+8*511, 8, entry(mid, "v"))
		x.m.Store(mid+8*511, 8, entry(low, "v"))
		x.maps(511, base, "vxa")
		x.h.PC = last
		x.lay(t, base+0xffc, c.line)
		x.doesThat(t, c.line, func(k *kept) { k.hart.X[1], k.hart.PC = c.x1, c.pc })
	}
}

// P22.3: words that are no instructions: the trap has the word, with noughts above.
func TestWordsThatAreNone(t *testing.T) {
	for _, w := range []uint32{
		0, 1, 0xffffffff, 0x80000000, 0x7f, 0x0000_0073 | 1<<7, 0x10000073, 0x00200073, 0x30200073 | 1<<15, 0x30000073, 0x00004073,
		0x00002063, 0x00003063, 0x00001067, 0x00007003, 0x00004023, 0x0000_7fff, 0x40001013 | 1<<31, 0x02000013 | 1<<31 | 1<<12, 0x0200001b | 1<<12, 0x0000201b,
		0x04000033, 0x40001033, 0x40007033, 0x0200103b, 0x4000103b, 0x0000302f | 0xf8<<24, 0x0000002f, 0x1010202f, 0x0000200f, 0x12000073 | 1<<7, 0x00009002, 0x4501,
	} {
		for _, mode := range []api.Mode{0, 1, 3} {
			x := fresh(t)
			x.h.CSR.Mode = mode
			x.m.Store(start, 4, uint64(w))
			x.trapsThere(t, fmt.Sprintf("%#x", w), 2, uint64(w))
			if x.h.CSR.Mtval != uint64(w) || x.h.CSR.Mcause != 2 || x.h.CSR.Mepc != start {
				t.Errorf("%#x: %+v", w, x.h.CSR)
			}
		}
	}
	// To the supervisor, where it is delegated.
	x := fresh(t)
	x.m.Store(start, 4, 0xffffffff)
	x.h.CSR.Mode, x.h.CSR.Medeleg = 0, 4
	x.trapsThere(t, "delegated", 2, 0xffffffff)
	if x.h.PC != super || x.h.CSR.Stval != 0xffffffff {
		t.Errorf("PC %#x, Stval %#x", x.h.PC, x.h.CSR.Stval)
	}
}

// P22.3: what is written where the hart goes on is what it does then.
func TestInstructionsThatAreWritten(t *testing.T) {
	x := fresh(t)
	x.h.X[5], x.h.X[6] = start+4, 0x00700093
	x.lay(t, start+4, "addi x1,x0,1")
	x.does(t, "sw x6,0(x5)", func(k *kept) { k.holds(start+4, 4, 0x00700093) })
	x.doesThat(t, "addi x1,x0,7", func(k *kept) { k.hart.X[1] = 7 })
}
