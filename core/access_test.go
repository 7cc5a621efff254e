package core

import (
	"fmt"
	"strings"
	"testing"

	"vireo/api"
	"vireo/ram"
)

// tried: instructions that go to memory at x5, with as many bytes, for that kind of access (1: to load, 2: to store).
var tried = []struct {
	line    string
	n, kind int
}{
	{"lb x6,0(x5)", 1, 1}, {"lbu x6,0(x5)", 1, 1}, {"lh x6,0(x5)", 2, 1}, {"lhu x6,0(x5)", 2, 1}, {"lw x6,0(x5)", 4, 1}, {"lwu x6,0(x5)", 4, 1}, {"ld x6,0(x5)", 8, 1},
	{"sb x7,0(x5)", 1, 2}, {"sh x7,0(x5)", 2, 2}, {"sw x7,0(x5)", 4, 2}, {"sd x7,0(x5)", 8, 2},
	{"lr.w x6,(x5)", 4, 1}, {"lr.d x6,(x5)", 8, 1}, {"sc.w x6,x7,(x5)", 4, 2}, {"sc.d x6,x7,(x5)", 8, 2},
	{"amoswap.w x6,x7,(x5)", 4, 2}, {"amoadd.w x6,x7,(x5)", 4, 2}, {"amoxor.w x6,x7,(x5)", 4, 2}, {"amoand.w x6,x7,(x5)", 4, 2}, {"amoor.w x6,x7,(x5)", 4, 2},
	{"amomin.w x6,x7,(x5)", 4, 2}, {"amomax.w x6,x7,(x5)", 4, 2}, {"amominu.w x6,x7,(x5)", 4, 2}, {"amomaxu.w x6,x7,(x5)", 4, 2},
	{"amoswap.d x6,x7,(x5)", 8, 2}, {"amoadd.d x6,x7,(x5)", 8, 2}, {"amoxor.d x6,x7,(x5)", 8, 2}, {"amoand.d x6,x7,(x5)", 8, 2}, {"amoor.d x6,x7,(x5)", 8, 2},
	{"amomin.d x6,x7,(x5)", 8, 2}, {"amomax.d x6,x7,(x5)", 8, 2}, {"amominu.d x6,x7,(x5)", 8, 2}, {"amomaxu.d x6,x7,(x5)", 8, 2},
}

// The traps of the kinds: to fetch, to load, to store.
var (
	crookedOf = []int{0, 4, 6}
	refusedOf = []int{1, 5, 7}
	pageOf    = []int{12, 13, 15}
)

// may: the instruction isn't a trap.
func (x *bench) may(t *testing.T, line string) {
	t.Helper()
	x.here(t, line)
	pc, retired := x.h.PC, x.h.CSR.Instret
	x.h.Step()
	if x.h.PC != pc+4 || x.h.CSR.Instret != retired+1 {
		t.Fatalf("%s: PC %#x, Mcause %#x, Mtval %#x", line, x.h.PC, x.h.CSR.Mcause, x.h.CSR.Mtval)
	}
}

// P22.2: an address has to be divided by how many bytes there are, wherever it leads; the trap has the address.
func TestCrookedAddresses(t *testing.T) {
	for _, c := range tried {
		for off := range uint64(16) {
			x := fresh(t)
			x.h.X[5] = data + off
			if off%uint64(c.n) == 0 {
				x.may(t, c.line)
				continue
			}
			x.traps(t, c.line, crookedOf[c.kind], data+off)
			for _, at := range []uint64{0, blkAt, plicAt, clintAt, end, ones - 15, 1 << 40} {
				x := fresh(t)
				x.h.X[5] = at + off
				x.traps(t, c.line, crookedOf[c.kind], at+off)
			}
		}
	}
}

// P22.2, P22.3: the sum of the register and the number counts, of 64 bits, and is the trap's word.
func TestCrookedSums(t *testing.T) {
	for _, c := range []struct {
		line  string
		x5    uint64
		cause int
		value uint64
	}{
		{"ld x6,1(x5)", data, 4, data + 1}, {"ld x6,-1(x5)", data, 4, data - 1}, {"lw x6,2047(x5)", data, 4, data + 2047}, {"lh x6,-2047(x5)", data, 4, data - 2047},
		{"sd x6,4(x5)", data, 6, data + 4}, {"sw x6,-2(x5)", data, 6, data - 2}, {"sh x6,1(x5)", data, 6, data + 1},
		{"lw x6,3(x5)", ones, 4, 2}, {"sw x6,-1(x5)", 0, 6, ones}, {"ld x6,0(x0)", 0, 5, 0}, {"ld x6,8(x0)", 0, 5, 8}, {"sd x6,-8(x0)", 0, 7, ones - 7}, {"lb x6,1(x5)", ones, 5, 0},
	} {
		x := fresh(t)
		x.h.X[5] = c.x5
		x.traps(t, c.line, c.cause, c.value)
	}
	x := fresh(t)
	x.h.X[5] = data + 1
	x.does(t, "ld x6,-1(x5)", func(k *kept) { k.hart.X[6], _ = x.m.Load(data, 8) })
	x.does(t, "sd x6,7(x5)", func(k *kept) { k.holds(data+8, 8, x.h.X[6]) })
}

// P22.2: without tables, in each mode: the address itself, where nothing is is no page.
func TestAccessesWithoutTables(t *testing.T) {
	for _, mode := range []api.Mode{0, 1, 3} {
		for _, c := range tried {
			x := fresh(t)
			x.h.CSR.Mode = mode
			for _, at := range []uint64{base + page, data, end - 8} {
				x.h.X[5] = at
				x.may(t, c.line)
			}
			for _, at := range []uint64{0, base - 8, end, 1<<32 + data, 1<<38 + data, top + data, ones - 7, 0x10003000, clintAt - 8, plicAt - 8} {
				x := fresh(t)
				x.h.CSR.Mode = mode
				x.h.X[5] = at
				x.traps(t, c.line, refusedOf[c.kind], at)
			}
		}
	}
}

// Where the tests' tables stand, each in a page; the last one is of the pages from base on.
const (
	root = base + 0x8000
	mid  = base + 0x9000
	low  = base + 0xa000
)

// bitsOf: an entry's bits, told by letters.
func bitsOf(letters string) uint64 {
	bits := uint64(0)
	for i, c := range "vrwxugad" {
		if strings.ContainsRune(letters, c) {
			bits |= 1 << i
		}
	}
	return bits
}

// entry: of a page, with these bits.
func entry(at uint64, letters string) uint64 { return at>>12<<10 | bitsOf(letters) }

// tables: three of them, in which there is nothing but the way to the last one; they count from now on.
func (x *bench) tables(mode api.Mode) {
	x.m.Write(root, make([]byte, 3*page))
	x.m.Store(root+8*2, 8, entry(mid, "v"))
	x.m.Store(mid, 8, entry(low, "v"))
	x.h.CSR.Satp = 8<<60 | root>>12
	x.h.CSR.Mode = mode
}

// maps: the page of that number, from base on, is the one at an address, with these bits.
func (x *bench) maps(n, at uint64, letters string) { x.m.Store(low+8*n, 8, entry(at, letters)) }

// code: the page in which the test's instructions stand may be done as it is.
func (x *bench) code() {
	letters := "vxa"
	if x.h.CSR.Mode == 0 {
		letters = "vxau"
	}
	x.maps(0, base, letters)
}

// P22.2: with tables the address is another one: bytes are read, written and done there.
func TestAccessesByTables(t *testing.T) {
	for _, mode := range []api.Mode{0, 1} {
		letters := "vrwxad"
		if mode == 0 {
			letters += "u"
		}
		for _, c := range tried {
			x := fresh(t)
			x.tables(mode)
			x.code()
			x.maps(7, data, letters)
			x.h.X[5] = base + 7*page + 0x228
			old, _ := x.m.Load(data+0x228, c.n)
			x.here(t, c.line)
			was := x.m.Copy()
			x.h.Step()
			if x.h.PC != start+4 {
				t.Fatalf("%s: PC %#x, %d", c.line, x.h.PC, x.h.CSR.Mcause)
			}
			pieces := ram.Differ(was, x.m, 9)
			for _, p := range pieces {
				if c.kind == 1 || p.At < data+0x228 || p.At+p.Len > data+0x228+uint64(c.n) {
					t.Errorf("%s: %x is written", c.line, pieces)
				}
			}
			if c.kind == 1 && x.h.X[6]&0x7f != old&0x7f {
				t.Errorf("%s: x6 %#x, not %#x", c.line, x.h.X[6], old)
			}
			if strings.Contains(c.line, "x7,0") && len(pieces) == 0 {
				t.Errorf("%s: nothing is written", c.line)
			}
		}
		// An instruction, too.
		x := fresh(t)
		x.tables(mode)
		x.maps(7, data, letters)
		x.lay(t, data+0x40, "addi x1,x0,77")
		x.h.PC = base + 7*page + 0x40
		x.doesThat(t, "addi", func(k *kept) { k.hart.X[1] = 77 })
		x.lay(t, data+0x44, "auipc x1,0")
		x.doesThat(t, "auipc", func(k *kept) { k.hart.X[1] = base + 7*page + 0x44 })
	}
}

// allowed: may a page with these bits be used, for a kind, by a mode, with SUM and MXR?
func allowed(letters string, kind int, mode api.Mode, sum, mxr bool) bool {
	has := func(c string) bool { return strings.Contains(letters, c) }
	switch {
	case !has("v"), has("w") && !has("r"), !has("r") && !has("x"), !has("a"):
		return false
	case mode == 0 && !has("u"), mode == 1 && has("u") && (kind == 0 || !sum):
		return false
	case kind == 0:
		return has("x")
	case kind == 1:
		return has("r") || has("x") && mxr
	}
	return has("w") && has("d")
}

// P22.2: every page there may be: whether it may be read, written, done, and else the trap of a page, with the address.
func TestPagesThatMayNot(t *testing.T) {
	const at = base + 7*page + 0x100
	seen := map[string]int{}
	for bits := range 128 {
		letters := ""
		for i, c := range "vrwxuad" {
			if bits>>i&1 == 1 {
				letters += string(c)
			}
		}
		for way := range 8 {
			mode, sum, mxr := api.Mode(way&1), way&2 == 2, way&4 == 4
			for kind, line := range []string{"", "ld x6,0(x5)", "sd x7,0(x5)"} {
				x := fresh(t)
				x.tables(mode)
				x.code()
				x.maps(7, data, letters)
				if sum {
					x.h.CSR.Status |= 1 << 18
				}
				if mxr {
					x.h.CSR.Status |= 1 << 19
				}
				x.h.X[5] = at
				if kind == 0 {
					x.lay(t, data+0x100, "addi x0,x0,0")
					x.h.PC = at
				} else {
					x.here(t, line)
				}
				what := fmt.Sprintf("%s in mode %d, sum %v, mxr %v, kind %d", letters, mode, sum, mxr, kind)
				if allowed(letters, kind, mode, sum, mxr) {
					x.doesThat(t, what, func(k *kept) {
						switch kind {
						case 1:
							k.hart.X[6], _ = k.m.Load(data+0x100, 8)
						case 2:
							k.holds(data+0x100, 8, filled(7))
						}
					})
					seen[fmt.Sprint("may", kind)]++
				} else {
					x.trapsThere(t, what, pageOf[kind], at)
					seen[fmt.Sprint("not", kind)]++
				}
			}
		}
	}
	if len(seen) != 6 {
		t.Errorf("%v", seen)
	}
}

// P22.2: each instruction has the trap of its kind: a page that may be read alone, one that may be done alone, one that isn't there.
func TestTheTrapOfEachInstruction(t *testing.T) {
	for _, c := range tried {
		for _, mode := range []api.Mode{0, 1} {
			for _, letters := range []string{"vra", "vxa", "vrwad", "vrwa", ""} {
				x := fresh(t)
				x.tables(mode)
				x.code()
				if mode == 0 {
					letters += "u"
				}
				x.maps(7, data, letters)
				x.h.X[5] = base + 7*page + 0x10
				if allowed(letters, c.kind, mode, false, false) {
					x.may(t, c.line)
				} else {
					x.traps(t, c.line, pageOf[c.kind], base+7*page+0x10)
				}
				// A crooked address is told ahead of the page.
				if c.n > 1 {
					y := fresh(t)
					y.tables(mode)
					y.code()
					y.h.X[5] = base + 9*page + 0x11
					y.traps(t, c.line, crookedOf[c.kind], base+9*page+0x11)
				}
			}
		}
	}
}

// P22.2: addresses that the tables don't lead from, tables beyond memory, and pages that lead to nothing.
func TestWalksThatFail(t *testing.T) {
	for kind, line := range []string{"", "ld x6,0(x5)", "sd x7,0(x5)", "lr.d x6,(x5)", "sc.d x6,x7,(x5)", "amoor.d x6,x7,(x5)"} {
		of := []int{0, 1, 2, 1, 2, 2}[kind]
		try := func(what string, cause int, at uint64, prepare func(x *bench)) {
			t.Helper()
			x := fresh(t)
			x.tables(1)
			x.code()
			x.h.X[5] = at
			if kind == 0 {
				x.h.PC = at
			} else {
				x.here(t, line)
			}
			prepare(x)
			x.trapsThere(t, what+" "+line, cause, at)
		}
		for _, at := range []uint64{1 << 38, 1<<39 + base, top + base, ones - 1<<39 - 7, 1 << 63} {
			try("improper", pageOf[of], at, func(x *bench) {})
		}
		for _, at := range []uint64{0, base + 1<<21, base + 0x1000, ones - 7, 0x40000000, 1<<38 - 8} {
			try("no entry", pageOf[of], at, func(x *bench) {})
		}
		const at = 0x40000000
		for _, table := range []uint64{0, end, blkAt &^ 0xfff, 1 << 40, 1<<56 - page} {
			try("a table beyond memory", refusedOf[of], at, func(x *bench) { x.m.Store(root+8, 8, entry(table, "v")) })
		}
		try("a page that is odd", pageOf[of], at, func(x *bench) { x.m.Store(root+8, 8, entry(base, "vrwxad")+1<<10) })
		for _, place := range []uint64{0, 1 << 40, base + 1<<30} {
			try("a page where nothing is", refusedOf[of], at, func(x *bench) { x.m.Store(root+8, 8, entry(place, "vrwxad")) })
		}
	}
	// No first table: then not even the instruction is there.
	x := fresh(t)
	x.tables(0)
	x.h.CSR.Satp = 8 << 60
	x.here(t, "ld x6,0(x5)")
	x.trapsThere(t, "no first table", 1, start)
}

// P22.2: satp counts with 8 in its highest bits alone, and never in the machine's mode.
func TestWhenTablesCount(t *testing.T) {
	for _, high := range []uint64{0, 1, 7, 8, 9, 15} {
		for _, mode := range []api.Mode{0, 1, 3} {
			x := fresh(t)
			x.tables(mode)
			x.code()
			x.h.CSR.Satp = high<<60 | root>>12
			x.h.X[5] = data
			if high == 8 && mode != 3 {
				x.traps(t, "ld x6,0(x5)", 13, data)
			} else {
				x.does(t, "ld x6,0(x5)", func(k *kept) { k.hart.X[6], _ = k.m.Load(data, 8) })
			}
		}
	}
}

// P22.2: MPRV: in the machine's mode loads and stores, but not fetches, go as those of the mode in MPP do.
func TestMPRV(t *testing.T) {
	for _, mpp := range []uint64{0, 1, 3} {
		for _, mprv := range []uint64{0, 1} {
			for _, c := range tried {
				for _, letters := range []string{"vrwad", "vrwaud", "vra", "vrau", "vxa", ""} {
					x := fresh(t)
					x.tables(3)
					x.maps(7, data, letters)
					x.h.CSR.Status = mprv<<17 | mpp<<11
					x.h.X[5] = base + 7*page + 8
					if mprv == 0 || mpp == 3 || allowed(letters, c.kind, api.Mode(mpp), false, false) {
						x.may(t, c.line)
					} else {
						x.traps(t, c.line, pageOf[c.kind], base+7*page+8)
					}
				}
			}
		}
	}
	// In the other modes it counts for nothing; what MPP is neither.
	for _, mode := range []api.Mode{0, 1} {
		x := fresh(t)
		x.tables(mode)
		x.code()
		x.h.CSR.Status = 1<<17 | 3<<11
		x.h.X[5] = data
		x.traps(t, "ld x6,0(x5)", 13, data)
	}
	// By MPRV a page leads elsewhere, the instruction's place doesn't; SUM counts, too.
	x := fresh(t)
	x.tables(3)
	x.maps(0, data, "vrwaud")
	x.h.CSR.Status = 1<<17 | 1<<11
	x.h.X[5] = start
	x.traps(t, "ld x6,0(x5)", 13, start)
	x.h.CSR.Status, x.h.PC = 1<<17|1<<11|1<<18, start
	x.does(t, "ld x6,0(x5)", func(k *kept) { k.hart.X[6], _ = k.m.Load(data+0x400, 8) })
}

// P22.2: a page that leads to a device, to the clock, to the Plic: loads and stores of it, no instruction and no atomic one.
func TestPagesOfDevices(t *testing.T) {
	x := fresh(t)
	x.tables(1)
	x.code()
	x.maps(3, blkAt&^0xfff, "vrwxad")
	x.maps(4, clintAt+0x4000, "vrwxad")
	x.maps(5, plicAt+0x200000, "vrwxad")
	x.h.X[5], x.h.X[6], x.h.X[7] = base+3*page, base+4*page, base+5*page
	x.does(t, "lw x1,0(x5)", func(k *kept) { k.hart.X[1] = 0x74726976 })
	x.does(t, "sw x1,0(x6)", func(k *kept) { k.clint.Cmp = 0xffffffff74726976 })
	x.does(t, "sw x1,0(x7)", func(k *kept) { k.plic.Least[0] = 6 })
	x.traps(t, "lb x1,0(x5)", 5, base+3*page)
	x.h.CSR.Mode, x.h.PC = 1, start
	x.traps(t, "sb x1,4(x7)", 7, base+5*page+4)
	x.h.CSR.Mode, x.h.PC = 1, start
	x.traps(t, "lr.w x1,(x5)", 5, base+3*page)
	x.h.CSR.Mode, x.h.PC = 1, start
	x.traps(t, "amoor.w x1,x2,(x6)", 7, base+4*page)
	x.h.CSR.Mode, x.h.PC = 1, base+4*page
	x.trapsThere(t, "a fetch of the clock", 1, base+4*page)
}
