package core

import (
	"fmt"
	"testing"
)

// P22.3: jal: PC and the number together, forward and back; Rd is the place behind it, and may be the first register.
func TestJal(t *testing.T) {
	for _, c := range []struct {
		imm int
		to  uint64
	}{{8, start + 8}, {0, start}, {4, start + 4}, {-4, start - 4}, {1048572, start + 0xffffc}, {-1048576, start - 0x100000}, {-0x400, base}} {
		for _, rd := range []int{1, 0, 31} {
			x := fresh(t)
			x.does(t, fmt.Sprintf("jal x%d,%d", rd, c.imm), func(k *kept) {
				k.hart.PC = c.to
				if rd != 0 {
					k.hart.X[rd] = start + 4
				}
			})
		}
	}
	for _, imm := range []int{2, -2, 6, 1048574, -1048574} {
		for _, rd := range []int{1, 0} {
			x := fresh(t)
			x.traps(t, fmt.Sprintf("jal x%d,%d", rd, imm), 0, start+uint64(imm))
		}
	}
}

// P22.3: jalr: the register and the number together, of 64 bits, without the lowest bit; the register that is read may be the one that is set.
func TestJalr(t *testing.T) {
	for _, c := range []struct {
		x5  uint64
		imm int
		to  uint64
	}{
		{data, 0, data}, {data, 8, data + 8}, {data, -8, data - 8}, {data, 1, data}, {data + 1, 0, data}, {data + 1, 2047, data + 2048}, {data + 4, -3, data}, {data, -2048, data - 2048},
		{ones, 1, 0}, {ones, 5, 4}, {0, -4, ones - 3}, {2, -5, ones - 3}, {top, 4, top + 4}, {0x123456789abcdef0, 0, 0x123456789abcdef0},
	} {
		for _, rd := range []int{1, 0, 5} {
			x := fresh(t)
			x.h.X[5] = c.x5
			x.does(t, fmt.Sprintf("jalr x%d,x5,%d", rd, c.imm), func(k *kept) {
				k.hart.PC = c.to
				if rd != 0 {
					k.hart.X[rd] = start + 4
				}
			})
		}
	}
	for _, c := range []struct {
		x5    uint64
		imm   int
		value uint64
	}{{data, 2, data + 2}, {data, 3, data + 2}, {data + 2, 0, data + 2}, {data + 3, 0, data + 2}, {data, -1, data - 2}, {ones, 0, ones - 1}, {ones, 4, 2}, {0, 2, 2}} {
		for _, rd := range []int{1, 0, 5} {
			x := fresh(t)
			x.h.X[5] = c.x5
			x.traps(t, fmt.Sprintf("jalr x%d,x5,%d", rd, c.imm), 0, c.value)
		}
	}
	x := fresh(t)
	x.does(t, "jalr x1,x0,8", func(k *kept) { k.hart.X[1], k.hart.PC = start+4, 8 })
}

// taken: for each branch words by which it is, and by which it isn't.
var taken = []struct {
	name   string
	a, b   uint64
	c, d   uint64
	itself bool // of one register by itself
}{
	{"beq", 5, 5, 5, 6, true}, {"bne", 5, 6, 5, 5, false}, {"blt", ones, 0, 0, ones, false}, {"bge", 0, ones, ones, 0, true}, {"bltu", 0, ones, ones, 0, false}, {"bgeu", ones, 0, 0, ones, true},
	{"beq", 0, 0, 1 << 32, 0, true}, {"bne", top, 0, top, top, false}, {"blt", 3, 4, 4, 4, false}, {"bge", 4, 4, 3, 4, true}, {"bltu", 3, 4, 4, 4, false}, {"bgeu", 4, 4, 3, 4, true},
	{"blt", top, top - 1, top - 1, top, false}, {"bltu", top - 1, top, top, top - 1, false},
}

// P22.3: each branch, taken and not, forward and back; no register is set.
func TestBranches(t *testing.T) {
	for _, c := range taken {
		for _, imm := range []int{8, 4, 0, -4, -0x400, 4092, -4096} {
			line := fmt.Sprintf("%s x1,x2,%d", c.name, imm)
			x := fresh(t)
			x.h.X[1], x.h.X[2] = c.a, c.b
			x.does(t, line, func(k *kept) { k.hart.PC = start + uint64(imm) })
			y := fresh(t)
			y.h.X[1], y.h.X[2] = c.c, c.d
			y.does(t, line, nil)
			z := fresh(t)
			z.does(t, fmt.Sprintf("%s x3,x3,%d", c.name, imm), func(k *kept) {
				if c.itself {
					k.hart.PC = start + uint64(imm)
				}
			})
		}
	}
	x := fresh(t)
	x.h.X[1] = 0
	x.does(t, "beq x0,x1,12", func(k *kept) { k.hart.PC = start + 12 })
}

// P22.3: a branch to an address that isn't divided by 4 is a trap, but only if it is taken.
func TestBranchesToCrookedAddresses(t *testing.T) {
	for _, c := range taken {
		for _, imm := range []int{2, -2, 6, 4094, -4094} {
			line := fmt.Sprintf("%s x1,x2,%d", c.name, imm)
			x := fresh(t)
			x.h.X[1], x.h.X[2] = c.a, c.b
			x.traps(t, line, 0, start+uint64(imm))
			if x.h.CSR.Mepc != start {
				t.Errorf("%s: Mepc %#x", line, x.h.CSR.Mepc)
			}
			y := fresh(t)
			y.h.X[1], y.h.X[2] = c.c, c.d
			y.does(t, line, nil)
		}
	}
}

// P22.3: a jump to where nothing is isn't a trap; the fetch there is.
func TestJumpsToNowhere(t *testing.T) {
	for _, at := range []uint64{0, blkAt, end, top, plicAt + 0x200004} {
		x := fresh(t)
		x.h.X[5] = at
		x.does(t, "jalr x1,x5,0", func(k *kept) { k.hart.X[1], k.hart.PC = start+4, at })
		x.trapsThere(t, "a fetch", 1, at)
		if x.h.X[1] != start+4 || x.h.CSR.Mepc != at {
			t.Errorf("x1 %#x, Mepc %#x", x.h.X[1], x.h.CSR.Mepc)
		}
	}
	// By tables it is the trap of a page, also at once.
	x := fresh(t)
	x.tables(1)
	x.code()
	x.does(t, "jal x1,4096", func(k *kept) { k.hart.X[1], k.hart.PC = start+4, start+4096 })
	x.trapsThere(t, "a fetch", 12, start+4096)
}

// P22.3: a loop: forward by what isn't taken, back by what is.
func TestALoop(t *testing.T) {
	x := fresh(t)
	x.lay(t, start, "addi x1,x0,0", "addi x2,x0,10", "add x1,x1,x2", "addi x2,x2,-1", "bne x2,x0,-8", "jal x0,0")
	for range 2 + 3*10 {
		x.h.Step()
	}
	if x.h.X[1] != 55 || x.h.X[2] != 0 || x.h.PC != start+20 || x.h.CSR.Instret != 932 {
		t.Errorf("x1 %d, x2 %d, PC %#x", x.h.X[1], x.h.X[2], x.h.PC)
	}
	x.doesThat(t, "jal x0,0", func(k *kept) { k.hart.PC = start + 20 })
}
