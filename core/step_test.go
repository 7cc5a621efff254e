package core

import (
	"fmt"
	"testing"

	"vireo/amo"
	"vireo/api"
)

// P22.1: what CSR holds behind each kind of step: the bus' lines, the clock's time, one cycle more; Instret is one more of an instruction alone.
func TestWhatEachStepTells(t *testing.T) {
	for _, c := range []struct {
		what    string
		line    string
		prepare func(h *Hart)
		lines   uint64
		retired uint64
		pc      uint64
	}{
		{"an instruction", "addi x1,x0,1", func(h *Hart) {}, 0, 901, start + 4},
		{"an instruction, with lines", "addi x1,x0,1", func(h *Hart) { h.Clint.Soft, h.Clint.Cmp = true, 77 }, 0x88, 901, start + 4},
		{"an instruction, with lines that were", "addi x1,x0,1", func(h *Hart) { h.CSR.Lines = 0xa88 }, 0, 901, start + 4},
		{"a branch that isn't taken", "bne x0,x0,8", func(h *Hart) {}, 0, 901, start + 4},
		{"the beginning of waiting", "wfi", func(h *Hart) {}, 0, 901, start + 4},
		{"a trap", "ecall", func(h *Hart) { h.Clint.Soft = true }, 8, 900, machine},
		{"no instruction", "addi x1,x0,1", func(h *Hart) { h.RAM.Store(start, 4, 0) }, 0, 900, machine},
		{"a fetch that is refused", "addi x1,x0,1", func(h *Hart) { h.PC = blkAt }, 0, 900, machine},
		{"an interrupt", "addi x1,x0,1", func(h *Hart) { h.Clint.Cmp, h.CSR.Mie, h.CSR.Status = 5, 0x80, 8 }, 0x80, 900, machine},
		{"an interrupt in place of a trap", "ecall", func(h *Hart) { h.Clint.Cmp, h.CSR.Mie, h.CSR.Status = 5, 0x80, 8 }, 0x80, 900, machine},
		{"waiting", "addi x1,x0,1", func(h *Hart) { h.Waits = true }, 0, 900, start},
		{"waiting, with lines", "addi x1,x0,1", func(h *Hart) { h.Waits, h.Clint.Cmp = true, 0 }, 0x80, 900, start},
		{"the end of waiting", "addi x1,x0,1", func(h *Hart) { h.Waits, h.Clint.Cmp, h.CSR.Mie = true, 0, 0x80 }, 0x80, 901, start + 4},
	} {
		x := fresh(t)
		x.here(t, c.line)
		c.prepare(x.h)
		x.h.Step()
		f := x.h.CSR
		if f.Lines != c.lines || f.Time != 77 || f.Cycle != 1001 || f.Instret != c.retired || x.h.PC != c.pc {
			t.Errorf("%s: Lines %#x, Time %d, Cycle %d, Instret %d, PC %#x", c.what, f.Lines, f.Time, f.Cycle, f.Instret, x.h.PC)
		}
		x.h.Clint.Tick(5)
		x.h.Step()
		if f := x.h.CSR; f.Time != 82 || f.Cycle != 1002 {
			t.Errorf("%s, a step later: Time %d, Cycle %d", c.what, f.Time, f.Cycle)
		}
	}
}

// P22.1: the lines are those of the devices, too, and of them the ones that a hart has.
func TestTheDevicesLines(t *testing.T) {
	x := fresh(t)
	x.h.Store(plicAt+4, 4, 1)
	x.h.Store(plicAt+0x2080, 4, 2)
	x.h.Plic.Line(1, true)
	x.does(t, "addi x1,x0,1", func(k *kept) { k.hart.X[1] = 1 })
	if x.h.CSR.Lines != 0x200 || x.h.CSR.Pending() != 0x200 {
		t.Errorf("Lines: %#x", x.h.CSR.Lines)
	}
	x.h.Store(plicAt+0x2000, 4, 2)
	x.h.Clint.Soft, x.h.CSR.Soft = true, 0x22
	x.does(t, "addi x1,x0,2", func(k *kept) { k.hart.X[1] = 2 })
	if x.h.CSR.Lines != 0xa08 || x.h.CSR.Pending() != 0xa2a {
		t.Errorf("Lines: %#x, pending %#x", x.h.CSR.Lines, x.h.CSR.Pending())
	}
	// Who claims takes them away.
	x.h.X[5] = plicAt + 0x201004
	x.does(t, "lw x6,0(x5)", func(k *kept) { k.hart.X[6], k.plic.Waits, k.plic.Serving = 1, 0, 2 })
	if x.h.CSR.Lines != 0xa08 {
		t.Errorf("Lines: %#x", x.h.CSR.Lines)
	}
	x.does(t, "addi x1,x0,3", func(k *kept) { k.hart.X[1] = 3 })
	if x.h.CSR.Lines != 8 {
		t.Errorf("Lines: %#x", x.h.CSR.Lines)
	}
}

// raise: an interrupt is pending: by the clock, by the Plic, or by a program.
func (x *bench) raise(cause int) {
	switch cause {
	case 3:
		x.h.Clint.Soft = true
	case 7:
		x.h.Clint.Cmp = x.h.Clint.Now
	case 9, 11:
		context := uint64(11-cause) / 2
		x.h.Store(plicAt+4, 4, 1)
		x.h.Store(plicAt+0x2000+0x80*context, 4, 2)
		x.h.Plic.Line(1, true)
	default:
		x.h.CSR.Soft |= 1 << cause
	}
}

// P22.1: an interrupt that is pending and allowed is entered ahead of any instruction: in each mode, delegated and not, by a straight vector and by one that is parted; one that isn't allowed isn't.
func TestInterrupts(t *testing.T) {
	taken, left := 0, 0
	for _, cause := range []int{1, 3, 5, 7, 9, 11} {
		for _, mode := range []api.Mode{0, 1, 3} {
			for bits := range 32 {
				delegated, mie, sie, parted, in := bits&1 == 1, bits&2 == 2, bits&4 == 4, bits&8 == 8, bits&16 == 16
				x := fresh(t)
				x.raise(cause)
				f := &x.h.CSR
				f.Mode = mode
				if in {
					f.Mie = 1 << cause
				} else {
					f.Mie = ones &^ (1 << cause)
				}
				if delegated {
					f.Mideleg = 1 << cause
				}
				if mie {
					f.Status |= 8
				}
				if sie {
					f.Status |= 2
				}
				if parted {
					f.Mtvec, f.Stvec = machine+1, super+1
				}
				allowed := mode < 3 || mie
				if delegated {
					allowed = mode == 0 || mode == 1 && sie
				}
				what := fmt.Sprintf("interrupt %d in mode %d, Mie %#x, Mideleg %#x, Status %#x", cause, mode, f.Mie, f.Mideleg, f.Status)
				x.here(t, "addi x1,x0,1")
				want := x.keeps()
				if in && allowed {
					taken++
					want.begins()
					want.enters(cause, 0, true)
					to := uint64(machine)
					if delegated && mode < 3 {
						to = super
					}
					if parted {
						to += 4 * uint64(cause)
					}
					if want.hart.PC != to {
						t.Fatalf("%s: %#x, not %#x", what, want.hart.PC, to)
					}
				} else {
					left++
					want.done()
					want.hart.X[1] = 1
				}
				x.h.Step()
				x.is(t, what, want)
			}
		}
	}
	if taken != 6*(8+8+8+4+4) || left != 6*(96-32) {
		t.Errorf("%d were taken, %d weren't", taken, left)
	}
}

// P22.1: of several the one that layer 9 tells.
func TestSeveralInterrupts(t *testing.T) {
	x := fresh(t)
	for _, cause := range []int{1, 3, 5, 7, 9, 11} {
		x.raise(cause)
	}
	x.h.Store(plicAt+0x2080, 4, 2)
	x.h.Store(plicAt+0x2000, 4, 2)
	f := &x.h.CSR
	f.Mie, f.Status = 0xaaa, 8
	x.here(t, "ecall")
	for _, cause := range []int{11, 3, 7, 9, 1, 5} {
		x.h.PC, f.Status = start, 8
		want := x.keeps()
		want.begins()
		want.enters(cause, 0, true)
		x.h.Step()
		x.is(t, fmt.Sprintf("interrupt %d", cause), want)
		f.Mie &^= 1 << cause
	}
	x.h.PC, f.Status = start, 8
	x.trapsThere(t, "ecall", 11, 0)
}

// P22.1: an interrupt is entered wherever the hart is, even where no instruction may be.
func TestAnInterruptAheadOfAFetch(t *testing.T) {
	for _, at := range []uint64{0, 2, start + 1, blkAt, end, ones, top} {
		x := fresh(t)
		x.raise(3)
		x.h.PC = at
		x.h.CSR.Mie, x.h.CSR.Status = 8, 8
		want := x.keeps()
		want.begins()
		want.enters(3, 0, true)
		x.h.Step()
		x.is(t, fmt.Sprintf("at %#x", at), want)
		if x.h.CSR.Mepc != at&^3 || x.h.CSR.Mcause != top+3 || x.h.PC != machine {
			t.Errorf("at %#x: Mepc %#x, Mcause %#x", at, x.h.CSR.Mepc, x.h.CSR.Mcause)
		}
	}
}

// waitsOn: a step in which nothing is done.
func (x *bench) waitsOn(t *testing.T, what string) {
	t.Helper()
	want := x.keeps()
	want.begins()
	x.h.Step()
	x.is(t, what, want)
	if !x.h.Waits {
		t.Fatalf("%s: it doesn't wait", what)
	}
}

// P22.1: a hart that waits: with nothing pending, and with something that isn't in Mie, nothing is done.
func TestWaiting(t *testing.T) {
	for _, mode := range []api.Mode{0, 1, 3} {
		x := fresh(t)
		x.h.CSR.Mode = mode
		x.h.CSR.Status = 0xa
		x.lay(t, start+4, "addi x1,x0,1")
		x.does(t, "wfi", func(k *kept) { k.hart.Waits = true })
		for range 3 {
			x.waitsOn(t, "nothing is pending")
		}
		x.h.CSR.Mie = 0xaaa
		x.waitsOn(t, "nothing is pending, all is in Mie")
		if x.h.CSR.Cycle != 1005 || x.h.CSR.Instret != 901 || x.h.PC != start+4 {
			t.Fatalf("%+v", x.h.CSR)
		}
		for _, cause := range []int{1, 3, 5, 7, 9, 11} {
			x.raise(cause)
			x.h.CSR.Mie &^= 1 << cause
			x.waitsOn(t, "what is pending isn't in Mie")
		}
		x.h.Store(plicAt+0x2080, 4, 2)
		x.waitsOn(t, "all are pending, none is in Mie")
		x.h.Clint.Tick(9)
		x.waitsOn(t, "time goes on")
		if x.h.CSR.Time != 86 || x.h.CSR.Pending() != 0xaaa || x.h.CSR.Mie != 0 {
			t.Fatalf("%+v", x.h.CSR)
		}
	}
}

// P22.1: a hart that waits, with something that is in Mie but may not be taken: it doesn't wait any more, and goes on.
func TestWaitingForWhatMayNotBeTaken(t *testing.T) {
	for _, cause := range []int{1, 3, 5, 7, 9, 11} {
		// In the machine's mode without MIE; or delegated, in the supervisor's mode without SIE; or delegated, in the machine's.
		for _, c := range []struct {
			mode            api.Mode
			status, mideleg uint64
		}{{3, 0, 0}, {3, 2, 0}, {1, 8, 1 << cause}, {3, 0xa, 1 << cause}} {
			x := fresh(t)
			x.h.Waits = true
			x.h.CSR.Mode, x.h.CSR.Status, x.h.CSR.Mideleg = c.mode, c.status, c.mideleg
			x.h.CSR.Mie = 0xaaa
			x.waitsOn(t, "nothing is pending")
			x.raise(cause)
			x.does(t, "addi x1,x0,1", func(k *kept) { k.hart.X[1] = 1 })
			if x.h.Waits || x.h.CSR.Instret != 901 {
				t.Fatalf("it waits")
			}
			// It may wait anew, which lasts no step.
			x.does(t, "wfi", func(k *kept) { k.hart.Waits = true })
			x.traps(t, "ebreak", 3, start+8)
			if x.h.Waits {
				t.Fatalf("it waits")
			}
		}
	}
}

// P22.1: a hart that waits, with something that may be taken: it is entered, from behind the instruction that waited.
func TestWaitingForWhatIsTaken(t *testing.T) {
	x := fresh(t)
	x.h.CSR.Mie, x.h.CSR.Status = 0x80, 8
	x.h.Clint.Cmp = 100
	x.does(t, "wfi", func(k *kept) { k.hart.Waits = true })
	for x.h.Clint.Now < 99 {
		x.h.Clint.Tick(1)
		x.waitsOn(t, "it isn't time yet")
	}
	x.h.Clint.Tick(1)
	want := x.keeps()
	want.begins()
	want.enters(7, 0, true)
	x.h.Step()
	x.is(t, "the time has come", want)
	if x.h.Waits || x.h.CSR.Mepc != start+4 || x.h.PC != machine || x.h.CSR.Time != 100 || (x.h.Held != amo.Set{}) {
		t.Errorf("PC %#x, %+v", x.h.PC, x.h.CSR)
	}
}

// P22.1: entering ends the reservation and the waiting, of an interrupt and of a trap; nothing else does.
func TestEnteringEndsWhatIsHeld(t *testing.T) {
	for _, set := range []amo.Set{{At: held, Len: 8}, {At: base, Len: 4}, {At: ones, Len: 0}, {At: 5, Len: ones}} {
		x := fresh(t)
		x.h.Held = set
		x.does(t, "addi x1,x0,1", func(k *kept) { k.hart.X[1] = 1 })
		if x.h.Held != set {
			t.Fatalf("%+v is held, not %+v", x.h.Held, set)
		}
		x.does(t, "wfi", func(k *kept) { k.hart.Waits = true })
		x.waitsOn(t, "nothing is pending")
		if x.h.Held != set {
			t.Fatalf("%+v is held, not %+v", x.h.Held, set)
		}
		x.h.CSR.Mie = 0x80
		x.raise(7)
		x.traps(t, "ecall", 11, 0)
		if (x.h.Held != amo.Set{}) || x.h.Waits {
			t.Fatalf("behind a trap %+v is held, and it waits: %v", x.h.Held, x.h.Waits)
		}
		x.h.Held, x.h.Waits, x.h.CSR.Status = set, true, 8
		x.h.Step()
		if (x.h.Held != amo.Set{}) || x.h.Waits || x.h.CSR.Mcause != top+7 {
			t.Fatalf("behind an interrupt %+v is held, and it waits: %v", x.h.Held, x.h.Waits)
		}
	}
}

// P22.1: a step that enters does nothing else: the next one does the first instruction where the vector leads.
func TestWhereTheVectorLeads(t *testing.T) {
	x := fresh(t)
	x.lay(t, machine, "addi x1,x0,1", "csrrs x2,0x342,x0")
	x.traps(t, "ecall", 11, 0)
	x.doesThat(t, "addi x1,x0,1", func(k *kept) { k.hart.X[1] = 1 })
	x.doesThat(t, "csrrs x2,0x342,x0", func(k *kept) { k.hart.X[2] = 11 })
	x.h.CSR.Medeleg, x.h.CSR.Mode = 1<<8, 0
	x.lay(t, super, "csrrs x3,0x142,x0")
	x.traps(t, "ecall", 8, 0)
	x.doesThat(t, "csrrs x3,0x142,x0", func(k *kept) { k.hart.X[3] = 8 })
}
