package core

import (
	"fmt"
	"testing"

	"vireo/api"
	"vireo/csr"
)

// P22.3: each of the six: what is written of what stands there and of a word or a number; Rd is what stood there.
func TestSystemRegisters(t *testing.T) {
	const old = 0xff00ff00ff00ff00
	for _, c := range []struct {
		line string
		now  uint64
	}{
		{"csrrw x%d,0x340,x5", 0x0ff00ff00ff00ff0}, {"csrrs x%d,0x340,x5", 0xfff0fff0fff0fff0}, {"csrrc x%d,0x340,x5", 0xf000f000f000f000},
		{"csrrw x%d,0x340,x0", 0}, {"csrrs x%d,0x340,x0", old}, {"csrrc x%d,0x340,x0", old},
		{"csrrwi x%d,0x340,21", 21}, {"csrrsi x%d,0x340,21", 0xff00ff00ff00ff15}, {"csrrci x%d,0x340,21", old}, {"csrrc x%d,0x340,x6", 0xff00ff00ff00fe00},
		{"csrrwi x%d,0x340,0", 0}, {"csrrsi x%d,0x340,0", old}, {"csrrci x%d,0x340,0", old}, {"csrrwi x%d,0x340,31", 31},
	} {
		for _, rd := range []int{1, 0, 5} {
			x := fresh(t)
			x.h.X[5] = 0x0ff00ff00ff00ff0
			x.h.X[6] = 0x100
			x.h.CSR.Mscratch = old
			x.does(t, fmt.Sprintf(c.line, rd), func(k *kept) {
				k.hart.CSR.Mscratch = c.now
				if rd != 0 {
					k.hart.X[rd] = old
				}
			})
		}
	}
	x := fresh(t)
	x.h.CSR.Mscratch = ones
	x.does(t, "csrrci x1,0x340,21", func(k *kept) { k.hart.X[1], k.hart.CSR.Mscratch = ones, ones-21 })
}

// all: the numbers of the registers that there are, and of some that there aren't.
func all() []int {
	list := []int{0, 1, 0x103, 0x107, 0x145, 0x181, 0x307, 0x345, 0x380, 0x3a0, 0x7a0, 0x7c0, 0xb01, 0xb03, 0xc03, 0xc80, 0xf10, 0xf15, 0xfff}
	for n := range 4096 {
		if csr.Known(n) {
			list = append(list, n)
		}
	}
	return list
}

// forms: instructions of a register, and what is written of what stands there; nil: nothing is.
var forms = []struct {
	form    string
	written func(raw uint64) uint64
}{
	{"csrrw x1,%#x,x5", func(raw uint64) uint64 { return filled(5) }},
	{"csrrs x1,%#x,x5", func(raw uint64) uint64 { return raw | filled(5) }},
	{"csrrc x1,%#x,x5", func(raw uint64) uint64 { return raw &^ filled(5) }},
	{"csrrw x1,%#x,x0", func(raw uint64) uint64 { return 0 }},
	{"csrrs x1,%#x,x0", nil},
	{"csrrc x1,%#x,x0", nil},
	{"csrrwi x1,%#x,9", func(raw uint64) uint64 { return 9 }},
	{"csrrsi x1,%#x,9", func(raw uint64) uint64 { return raw | 9 }},
	{"csrrci x1,%#x,9", func(raw uint64) uint64 { return raw &^ 9 }},
	{"csrrwi x1,%#x,0", func(raw uint64) uint64 { return 0 }},
	{"csrrsi x1,%#x,0", nil},
	{"csrrci x1,%#x,0", nil},
}

// P22.3: each register, in each mode, read alone and written: which may be, what Rd is, what is written; the others are no instructions.
func TestEachSystemRegister(t *testing.T) {
	may, not := 0, 0
	for _, n := range all() {
		for way := range 3 * 2 {
			mode, counters := []api.Mode{0, 1, 3}[way%3], uint64(way/3*7)
			for _, c := range forms {
				x := fresh(t)
				line := fmt.Sprintf(c.form, n)
				f := &x.h.CSR
				f.Mode, f.Mcounteren, f.Scounteren = mode, counters, counters
				// Of what is pending nothing is in Mie, so none is taken.
				f.Medeleg, f.Mideleg, f.Mie, f.Soft = 0x1fb, 0x222, 0xa80, 0x22
				x.h.Clint.Soft = true
				hidden := 0xc00 <= n && n <= 0xc02 && mode < 3 && counters == 0
				if !csr.Known(n) || int(mode) < n>>8&3 || c.written != nil && n>>10 == 3 || hidden {
					not++
					x.illegal(t, line)
					continue
				}
				may++
				x.does(t, line, func(k *kept) {
					g := &k.hart.CSR
					// Instret is one more behind all this, not ahead of it.
					g.Instret--
					k.hart.X[1] = g.Read(n)
					if c.written != nil {
						g.Write(n, c.written(g.Raw(n)))
					}
					g.Instret++
				})
			}
		}
	}
	if may < 500 || not < 500 {
		t.Errorf("%d may be, %d not", may, not)
	}
}

// P22.3: what doesn't write leaves a register as it is, even where a write of just that would change it.
func TestWhatDoesNotWrite(t *testing.T) {
	for _, form := range []string{"csrrs x1,%#x,x0", "csrrc x1,%#x,x0", "csrrsi x1,%#x,0", "csrrci x1,%#x,0"} {
		for _, n := range []int{0x341, 0x141, 0x304, 0x302, 0x303, 0x306, 0x344} {
			x := fresh(t)
			f := &x.h.CSR
			f.Mepc, f.Sepc, f.Medeleg, f.Mideleg, f.Mcounteren, f.Soft = ones, ones, ones, ones, ones, ones
			f.Mie = 0xfffff555
			x.does(t, fmt.Sprintf(form, n), func(k *kept) { k.hart.X[1] = k.hart.CSR.Read(n) })
		}
	}
}

// P22.3: what is only read may be read by csrrs and csrrc of the first register, and of the number 0, alone: whether they write is told by the register's number, not by its word.
func TestWhatIsOnlyRead(t *testing.T) {
	for _, n := range []int{0xc00, 0xc01, 0xc02, 0xf11, 0xf12, 0xf13, 0xf14} {
		for _, form := range []string{"csrrs x1,%#x,x0", "csrrc x1,%#x,x0", "csrrsi x1,%#x,0", "csrrci x1,%#x,0"} {
			x := fresh(t)
			x.does(t, fmt.Sprintf(form, n), func(k *kept) {
				k.hart.X[1] = map[int]uint64{0xc00: 1001, 0xc01: 77, 0xc02: 900}[n]
			})
		}
		for _, form := range []string{"csrrw x1,%#x,x0", "csrrw x0,%#x,x0", "csrrwi x1,%#x,0", "csrrs x1,%#x,x5", "csrrc x0,%#x,x5", "csrrsi x1,%#x,1", "csrrci x1,%#x,31"} {
			x := fresh(t)
			x.h.X[5] = 0
			x.illegal(t, fmt.Sprintf(form, n))
		}
	}
}

// P22.3: of a register that there is none, and of one that may not be in this mode, the word is none; Rd and what is kept stay.
func TestWhatMayNotBe(t *testing.T) {
	for _, c := range []struct {
		mode   api.Mode
		line   string
		status uint64
		may    bool
	}{
		{3, "csrrs x1,0x0,x0", 0, false}, {3, "csrrs x1,0xfff,x0", 0, false}, {3, "csrrw x1,0x7c0,x5", 0, false}, {3, "csrrs x1,0xc03,x0", 0, false},
		{1, "csrrs x1,0x300,x0", 0, false}, {0, "csrrs x1,0x100,x0", 0, false}, {0, "csrrs x1,0x300,x0", 0, false}, {0, "csrrw x1,0x340,x5", 0, false}, {1, "csrrw x1,0x340,x5", 0, false},
		{1, "csrrs x1,0x140,x0", 0, true}, {3, "csrrs x1,0x140,x0", 0, true}, {3, "csrrw x1,0x300,x5", 0, true},
		{1, "csrrs x1,0x180,x0", 0, true}, {1, "csrrs x1,0x180,x0", 1 << 20, false}, {1, "csrrw x1,0x180,x0", 1 << 20, false}, {3, "csrrs x1,0x180,x0", 1 << 20, true}, {0, "csrrs x1,0x180,x0", 0, false},
		{1, "csrrs x1,0xc00,x0", 0, false}, {0, "csrrs x1,0xc01,x0", 0, false}, {3, "csrrs x1,0xc02,x0", 0, true},
	} {
		x := fresh(t)
		x.h.CSR.Mode, x.h.CSR.Status = c.mode, c.status
		if c.may {
			x.may(t, c.line)
		} else {
			x.illegal(t, c.line)
		}
	}
}

// P22.3: the counters by their permissions.
func TestTheCounters(t *testing.T) {
	for n := range 3 {
		for mcount := range uint64(8) {
			for scount := range uint64(8) {
				for _, mode := range []api.Mode{0, 1, 3} {
					x := fresh(t)
					x.h.CSR.Mode, x.h.CSR.Mcounteren, x.h.CSR.Scounteren = mode, mcount, scount
					line := fmt.Sprintf("csrrs x1,%#x,x0", 0xc00+n)
					if mode == 3 || mcount>>n&1 == 1 && (mode == 1 || scount>>n&1 == 1) {
						x.does(t, line, func(k *kept) { k.hart.X[1] = []uint64{1001, 77, 900}[n] })
					} else {
						x.illegal(t, line)
					}
				}
			}
		}
	}
}

// P22.3: of mip and sip Rd has what devices hold up, too; what is set or cleared doesn't take it for the program's.
func TestPendingBits(t *testing.T) {
	// The supervisor's line of the devices is up, and the software's one by the program.
	hold := func(t *testing.T) *bench {
		x := fresh(t)
		x.raise(9)
		x.h.CSR.Soft = 2
		x.h.CSR.Mideleg = 0x222
		return x
	}
	for _, c := range []struct {
		line string
		rd   uint64
		soft uint64
	}{
		{"csrrs x1,0x344,x0", 0x202, 2}, {"csrrs x1,0x144,x0", 0x202, 2}, {"csrrsi x1,0x344,0", 0x202, 2},
		{"csrrsi x1,0x344,2", 0x202, 2}, {"csrrs x1,0x344,x5", 0x202, 0x22}, {"csrrsi x1,0x144,2", 0x202, 2}, {"csrrs x1,0x144,x5", 0x202, 2},
		{"csrrci x1,0x344,2", 0x202, 0}, {"csrrci x1,0x144,2", 0x202, 0}, {"csrrc x1,0x344,x5", 0x202, 2}, {"csrrc x1,0x344,x6", 0x202, 2}, {"csrrci x1,0x344,1", 0x202, 2},
		{"csrrw x1,0x344,x6", 0x202, 0x200}, {"csrrs x1,0x344,x6", 0x202, 0x202}, {"csrrw x1,0x344,x0", 0x202, 0}, {"csrrw x1,0x144,x6", 0x202, 0}, {"csrrwi x1,0x344,31", 0x202, 2},
	} {
		x := hold(t)
		x.h.X[5], x.h.X[6] = 0x20, 0x200
		x.does(t, c.line, func(k *kept) { k.hart.X[1], k.hart.CSR.Soft = c.rd, c.soft })
		if x.h.CSR.Lines != 0x200 {
			t.Errorf("%s: Lines %#x", c.line, x.h.CSR.Lines)
		}
	}
	// What programs may not set stays the devices': the clock's line, and the machine's.
	x := hold(t)
	x.h.Clint.Soft, x.h.Clint.Cmp = true, 0
	x.h.X[5] = ones
	x.does(t, "csrrs x1,0x344,x5", func(k *kept) { k.hart.X[1], k.hart.CSR.Soft = 0x28a, 0x222 })
	x.does(t, "csrrc x1,0x344,x5", func(k *kept) { k.hart.X[1], k.hart.CSR.Soft = 0x2aa, 0 })
	x.does(t, "csrrs x1,0x344,x0", func(k *kept) { k.hart.X[1] = 0x288 })
	// What isn't delegated sip doesn't tell.
	x.h.CSR.Mideleg, x.h.CSR.Soft = 0x20, 0x22
	x.does(t, "csrrs x1,0x144,x0", func(k *kept) { k.hart.X[1] = 0x20 })
	x.does(t, "csrrci x1,0x144,2", func(k *kept) { k.hart.X[1] = 0x20 })
}

// P22.1, P22.3: the counters when they are written: Cycle was one more ahead of the instruction, Instret is one more behind it.
func TestCountersThatAreWritten(t *testing.T) {
	x := fresh(t)
	x.h.X[5] = 5000
	x.does(t, "csrrs x1,0xb00,x0", func(k *kept) { k.hart.X[1] = 1001 })
	x.does(t, "csrrw x1,0xb00,x5", func(k *kept) { k.hart.X[1], k.hart.CSR.Cycle = 1002, 5000 })
	x.does(t, "csrrs x1,0xc00,x0", func(k *kept) { k.hart.X[1] = 5001 })
	x.does(t, "csrrs x1,0xb02,x0", func(k *kept) { k.hart.X[1] = 903 })
	x.does(t, "csrrw x1,0xb02,x5", func(k *kept) { k.hart.X[1], k.hart.CSR.Instret = 904, 5001 })
	x.does(t, "csrrs x1,0xc02,x0", func(k *kept) { k.hart.X[1] = 5001 })
	// From the last number on they begin anew.
	x.h.CSR.Cycle, x.h.CSR.Instret = ones, ones
	x.does(t, "csrrs x1,0xb02,x0", func(k *kept) { k.hart.X[1] = ones })
	if x.h.CSR.Cycle != 0 || x.h.CSR.Instret != 0 {
		t.Errorf("Cycle %d, Instret %d", x.h.CSR.Cycle, x.h.CSR.Instret)
	}
}

// P22.1, P22.3: what is written counts from the next step on: an interrupt that is let, tables that are switched on.
func TestFromTheNextStepOn(t *testing.T) {
	x := fresh(t)
	x.h.Clint.Soft = true
	x.h.X[5] = 8
	x.does(t, "csrrw x0,0x304,x5", func(k *kept) { k.hart.CSR.Mie = 8 })
	x.does(t, "csrrsi x0,0x300,8", func(k *kept) { k.hart.CSR.Status = 8 })
	want := x.keeps()
	want.begins()
	want.enters(3, 0, true)
	x.h.Step()
	x.is(t, "an interrupt", want)
	if x.h.CSR.Mepc != start+8 {
		t.Errorf("Mepc %#x", x.h.CSR.Mepc)
	}
	y := fresh(t)
	y.tables(1)
	y.h.CSR.Satp = 0
	y.h.X[5] = 8<<60 | root>>12
	y.does(t, "csrrw x1,0x180,x5", func(k *kept) { k.hart.X[1], k.hart.CSR.Satp = 0, 8<<60|root>>12 })
	y.trapsThere(t, "no page", 12, start+4)
}
