package core

import (
	"fmt"
	"testing"

	"vireo/api"
)

// P22.3: ecall: the trap of the mode, with the word 0; delegated, where it is.
func TestEcall(t *testing.T) {
	for _, mode := range []api.Mode{0, 1, 3} {
		for _, medeleg := range []uint64{0, 0x100, 0x200, 0xb3ff} {
			x := fresh(t)
			x.h.CSR.Mode, x.h.CSR.Medeleg, x.h.CSR.Status = mode, medeleg, 0xa
			cause := []int{8, 9, 0, 11}[mode]
			x.traps(t, "ecall", cause, 0)
			to := uint64(machine)
			if mode < 3 && medeleg>>cause&1 == 1 {
				to = super
			}
			if x.h.PC != to {
				t.Errorf("in mode %d: PC %#x", mode, x.h.PC)
			}
		}
	}
}

// P22.3: ebreak: Breakpoint with PC, in each mode.
func TestEbreak(t *testing.T) {
	for _, mode := range []api.Mode{0, 1, 3} {
		for _, medeleg := range []uint64{0, 8} {
			x := fresh(t)
			x.h.CSR.Mode, x.h.CSR.Medeleg = mode, medeleg
			x.traps(t, "ebreak", 3, start)
		}
	}
	x := fresh(t)
	x.tables(0)
	x.maps(7, data, "vxau")
	x.lay(t, data+16, "ebreak")
	x.h.PC = base + 7*page + 16
	x.trapsThere(t, "ebreak", 3, base+7*page+16)
}

// P22.3: mret: from the machine's mode to the one in MPP, with MIE as MPIE was, at Mepc; else it is no instruction.
func TestMret(t *testing.T) {
	for mpp := range uint64(4) {
		for _, c := range []struct{ status, now uint64 }{{0, 0x80}, {8, 0x80}, {0x80, 0x88}, {0x88, 0x88}} {
			for _, mprv := range []uint64{0, 1 << 17} {
				x := fresh(t)
				x.h.CSR.Status = c.status | mpp<<11 | mprv
				x.h.CSR.Mepc = data
				x.does(t, "mret", func(k *kept) {
					k.hart.PC = data
					k.hart.CSR.Mode = api.Mode(mpp)
					k.hart.CSR.Status = c.now
					if mpp == 3 {
						k.hart.CSR.Status |= mprv
					}
				})
			}
		}
	}
	for _, mode := range []api.Mode{0, 1} {
		x := fresh(t)
		x.h.CSR.Mode, x.h.CSR.Status = mode, 0x1888
		x.illegal(t, "mret")
	}
}

// P22.3: sret: from the supervisor's mode, without TSR, or the machine's, to the one in SPP, with SIE as SPIE was, at Sepc; else it is no instruction.
func TestSret(t *testing.T) {
	for _, mode := range []api.Mode{1, 3} {
		for spp := range uint64(2) {
			for _, c := range []struct{ status, now uint64 }{{0, 0x20}, {2, 0x20}, {0x20, 0x22}, {0x22, 0x22}, {0x20020, 0x22}} {
				x := fresh(t)
				x.h.CSR.Mode, x.h.CSR.Status, x.h.CSR.Sepc = mode, c.status|spp<<8, data
				x.does(t, "sret", func(k *kept) {
					k.hart.PC, k.hart.CSR.Mode, k.hart.CSR.Status = data, api.Mode(spp), c.now
				})
			}
		}
	}
	x := fresh(t)
	x.h.CSR.Mode, x.h.CSR.Status = 0, 0x122
	x.illegal(t, "sret")
	y := fresh(t)
	y.h.CSR.Mode, y.h.CSR.Status = 1, 0x122|1<<22
	y.illegal(t, "sret")
	z := fresh(t)
	z.h.CSR.Status, z.h.CSR.Sepc = 1<<22, data
	z.does(t, "sret", func(k *kept) { k.hart.PC, k.hart.CSR.Mode, k.hart.CSR.Status = data, 0, 1<<22|0x20 })
}

// P22.3: where one comes back to may be anywhere: it is the next fetch that is refused.
func TestBackToAnywhere(t *testing.T) {
	for _, c := range []struct {
		at    uint64
		cause int
	}{{0, 1}, {blkAt, 1}, {data + 2, 0}, {ones, 0}} {
		x := fresh(t)
		x.h.CSR.Mepc, x.h.CSR.Status = c.at, 0x1800
		x.does(t, "mret", func(k *kept) { k.hart.PC, k.hart.CSR.Mode, k.hart.CSR.Status = c.at, 3, 0x80 })
		x.trapsThere(t, "a fetch", c.cause, c.at)
	}
}

// P22.3: wfi: in the machine's mode, or where TW is 0; else it is no instruction, and nobody waits.
func TestWfi(t *testing.T) {
	for _, mode := range []api.Mode{0, 1, 3} {
		for _, status := range []uint64{0, 1 << 21, 0x7e19aa &^ (1 << 21)} {
			x := fresh(t)
			x.h.CSR.Mode, x.h.CSR.Status = mode, status
			if mode < 3 && status == 1<<21 {
				x.illegal(t, "wfi")
				continue
			}
			x.does(t, "wfi", func(k *kept) { k.hart.Waits = true })
		}
	}
	// With something that is pending it waits, too; that ends with the next step.
	x := fresh(t)
	x.h.CSR.Mie, x.h.Clint.Soft = 8, true
	x.does(t, "wfi", func(k *kept) { k.hart.Waits = true })
	x.does(t, "addi x1,x0,1", func(k *kept) { k.hart.X[1] = 1 })
}

// P22.3: sfence.vma: in the machine's mode, or the supervisor's without TVM; else it is no instruction.
func TestSfenceVma(t *testing.T) {
	for _, mode := range []api.Mode{0, 1, 3} {
		for _, status := range []uint64{0, 1 << 20} {
			for _, line := range []string{"sfence.vma x0,x0", "sfence.vma x5,x6", "sfence.vma x31,x1"} {
				x := fresh(t)
				x.h.CSR.Mode, x.h.CSR.Status = mode, status
				if mode == 0 || mode == 1 && status != 0 {
					x.illegal(t, line)
				} else {
					x.does(t, line, nil)
				}
			}
		}
	}
}

// P22.1, P22.3: there and back again: a trap's handler looks at what came, goes one on, and comes back.
func TestThereAndBack(t *testing.T) {
	for _, mode := range []api.Mode{0, 1} {
		for _, medeleg := range []uint64{0, 0xb3ff} {
			x := fresh(t)
			x.h.CSR.Mode, x.h.CSR.Medeleg, x.h.CSR.Status = mode, medeleg, 0x2a
			x.lay(t, start, "addi x10,x0,1", "ecall", "addi x10,x10,2", "ebreak", "addi x10,x10,4", "jal x0,0")
			x.lay(t, machine, "csrrw x5,0x340,x5", "csrrs x6,0x341,x0", "addi x6,x6,4", "csrrw x0,0x341,x6", "addi x11,x11,1", "csrrw x5,0x340,x5", "mret")
			x.lay(t, super, "csrrw x5,0x140,x5", "csrrs x6,0x141,x0", "addi x6,x6,4", "csrrw x0,0x141,x6", "addi x12,x12,1", "csrrw x5,0x140,x5", "sret")
			x.h.X[11], x.h.X[12] = 0, 0
			for range 5 + 2*7 {
				x.h.Step()
			}
			want := [2]uint64{2, 0}
			if medeleg != 0 {
				want = [2]uint64{0, 2}
			}
			if got := [2]uint64{x.h.X[11], x.h.X[12]}; got != want || x.h.X[10] != 7 || x.h.PC != start+20 || x.h.CSR.Mode != mode || x.h.X[5] != filled(5) {
				t.Errorf("in mode %d: %v, x10 %d, PC %#x, mode %d", mode, got, x.h.X[10], x.h.PC, x.h.CSR.Mode)
			}
			if x.h.CSR.Instret != 900+3+14 || x.h.CSR.Cycle != 1000+19 {
				t.Errorf("Instret %d, Cycle %d", x.h.CSR.Instret, x.h.CSR.Cycle)
			}
		}
	}
}

// P22.5: a trap sets no register and writes no memory: of each kind, with whatever Rd.
func TestTrapsSetNothing(t *testing.T) {
	for _, rd := range []int{1, 2, 5, 31} {
		for _, c := range []struct {
			line  string
			cause int
			value uint64
		}{
			{"jal x%d,2", 0, start + 2}, {"jalr x%d,x5,2", 0, blkAt + 2}, {"lb x%d,0(x5)", 5, blkAt}, {"lw x%d,1(x5)", 4, blkAt + 1}, {"lr.w x%d,(x5)", 5, blkAt}, {"sc.w x%d,x7,(x5)", 7, blkAt},
			{"amoadd.d x%d,x7,(x5)", 7, blkAt},
		} {
			x := fresh(t)
			x.h.X[5] = blkAt
			was := x.h.X
			if rd == 5 {
				was[5] = blkAt
			}
			x.traps(t, fmt.Sprintf(c.line, rd), c.cause, c.value)
			if x.h.X != was {
				t.Errorf("%s: a register is set", c.line)
			}
		}
		x := fresh(t)
		x.illegal(t, fmt.Sprintf("csrrw x%d,0xc00,x7", rd))
		x.h.PC = start
		x.illegal(t, fmt.Sprintf("csrrs x%d,0x7c0,x7", rd))
	}
}
