package trap

import (
	"math/rand"
	"testing"

	"vireo/api"
	"vireo/csr"
)

// P9.1: a handful by hand.
func TestDelegated(t *testing.T) {
	for _, c := range []struct {
		mode             api.Mode
		medeleg, mideleg uint64
		cause            int
		interrupt, want  bool
	}{
		{api.User, 0, 0, 2, false, false}, {api.User, 4, 0, 2, false, true}, {api.Supervisor, 4, 0, 2, false, true}, {api.Machine, 4, 0, 2, false, false},
		{api.User, 0, 4, 2, false, false}, {api.User, 0x100, 0, 8, false, true}, {api.User, 0x100, 0, 9, false, false},
		{api.User, 0, 2, 1, true, true}, {api.Supervisor, 0, 2, 1, true, true}, {api.Machine, 0, 2, 1, true, false}, {api.User, 2, 0, 1, true, false}, {api.User, 0, 0x200, 1, true, false},
		{api.User, 1, 0, 0, false, true}, {api.User, 0, 1, 0, true, true}, {api.Supervisor, 1 << 63, 0, 63, false, true}, {api.Supervisor, 0, 1 << 63, 63, true, true}, {api.Machine, ones, ones, 63, true, false},
	} {
		f := csr.File{Mode: c.mode, Medeleg: c.medeleg, Mideleg: c.mideleg}
		if got := Delegated(&f, api.Trap{Cause: c.cause, Interrupt: c.interrupt}); got != c.want {
			t.Errorf("%+v: %v", c, got)
		}
	}
}

// P9.1: every cause, in the list that counts alone, in all but it, and not in the one but in the other; in each mode.
func TestDelegatedEveryCause(t *testing.T) {
	for _, m := range modes {
		for cause := range 64 {
			bit := uint64(1) << cause
			for _, c := range []struct {
				own, other uint64
				has        bool
			}{
				{0, 0, false}, {bit, 0, true}, {ones - bit, 0, false}, {ones, 0, true}, {0, bit, false}, {0, ones, false}, {ones - bit, ones, false}, {bit, ones - bit, true}, {bit, ones, true},
			} {
				// Neither the value nor Status is asked.
				for _, value := range []uint64{0, ones} {
					of := csr.File{Mode: m, Status: value, Mideleg: c.own, Medeleg: c.other}
					if got := Delegated(&of, api.Trap{Cause: cause, Value: value, Interrupt: true}); got != (c.has && m < 3) {
						t.Errorf("interrupt %d in mode %d with %#x and %#x: %v", cause, m, c.own, c.other, got)
					}
					of = csr.File{Mode: m, Status: value, Medeleg: c.own, Mideleg: c.other}
					if got := Delegated(&of, api.Trap{Cause: cause, Value: value}); got != (c.has && m < 3) {
						t.Errorf("cause %d in mode %d with %#x and %#x: %v", cause, m, c.own, c.other, got)
					}
				}
			}
		}
	}
}

type enterCase struct {
	mode   api.Mode
	status uint64
	trap   api.Trap
	pc     uint64
	now    uint64 // Status behind it
	cause  uint64
	epc    uint64
	to     uint64
}

// P9.2: to the machine, by hand: from each mode, MIE and MPIE moved, MPP set, the others let be.
func TestEnterMachine(t *testing.T) {
	illegal, timer := api.Trap{Cause: 2, Value: 0xdead}, api.Trap{Cause: 7, Interrupt: true}
	for _, c := range []enterCase{
		{3, 0, illegal, 0x80000000, 0x1800, 2, 0x80000000, 0x1000},
		{3, 0x8, illegal, 0x80000004, 0x1880, 2, 0x80000004, 0x1000},
		{3, 0x80, illegal, 0x80000006, 0x1800, 2, 0x80000004, 0x1000},
		{3, 0x88, timer, 0x80000007, 0x1880, 1<<63 + 7, 0x80000004, 0x101c},
		{1, 0, illegal, 1, 0x800, 2, 0, 0x1000},
		{1, 0x1888, illegal, 3, 0x880, 2, 0, 0x1000},
		{1, 0x122, timer, 5, 0x922, 1<<63 + 7, 4, 0x101c},
		{0, 0, illegal, ones, 0, 2, ones - 3, 0x1000},
		{0, 0x1808, timer, 8, 0x80, 1<<63 + 7, 8, 0x101c},
		{0, 0x1880, illegal, 8, 0, 2, 8, 0x1000},
		{0, 0x7e19aa, illegal, 8, 0x7e01a2, 2, 8, 0x1000}, // MIE, too, was 1: MPIE stays 1
		{3, ones, timer, 0, ones - 8, 1<<63 + 7, 0, 0x101c},
	} {
		f := csr.File{Mode: c.mode, Status: c.status, Mtvec: 0x1001, Stvec: 0x2001, Sepc: 5, Scause: 6, Stval: 7}
		want := f
		want.Mode, want.Status, want.Mcause, want.Mepc, want.Mtval = 3, c.now, c.cause, c.epc, c.trap.Value
		if to := Enter(&f, c.trap, c.pc); to != c.to || f != want {
			t.Errorf("%+v: %#x; %+v, not %+v", c, to, f, want)
		}
	}
}

// P9.2: to the supervisor, by hand: SIE and SPIE moved, SPP set, the others let be.
func TestEnterSupervisor(t *testing.T) {
	call, outer := api.Trap{Cause: 8, Value: 0xbeef}, api.Trap{Cause: 9, Interrupt: true}
	for _, c := range []enterCase{
		{0, 0, call, 0x80000000, 0, 8, 0x80000000, 0x2000},
		{0, 0x2, call, 0x80000005, 0x20, 8, 0x80000004, 0x2000},
		{0, 0x20, call, 0x80000006, 0, 8, 0x80000004, 0x2000},
		{0, 0x122, outer, 0x80000007, 0x20, 1<<63 + 9, 0x80000004, 0x2024},
		{1, 0, call, 1, 0x100, 8, 0, 0x2000},
		{1, 0x2, outer, 2, 0x120, 1<<63 + 9, 0, 0x2024},
		{1, 0x20, outer, 3, 0x100, 1<<63 + 9, 0, 0x2024},
		{1, 0x188a, call, 4, 0x19a8, 8, 4, 0x2000},
		{0, 0x7e19aa, call, 8, 0x7e18a8, 8, 8, 0x2000},
		{1, ones, outer, ones, ones - 2, 1<<63 + 9, ones - 3, 0x2024},
	} {
		f := csr.File{Mode: c.mode, Status: c.status, Medeleg: 0x100, Mideleg: 0x200, Mtvec: 0x1001, Stvec: 0x2001, Mepc: 5, Mcause: 6, Mtval: 7}
		want := f
		want.Mode, want.Status, want.Scause, want.Sepc, want.Stval = 1, c.now, c.cause, c.epc, c.trap.Value
		if to := Enter(&f, c.trap, c.pc); to != c.to || f != want {
			t.Errorf("%+v: %#x; %+v, not %+v", c, to, f, want)
		}
	}
}

// P9.2: where a vector leads: bit 0 counts for interrupts alone, bit 1 not at all; beyond the end the sum begins anew.
func TestVectors(t *testing.T) {
	for _, c := range []struct {
		vector    uint64
		cause     int
		interrupt bool
		want      uint64
	}{
		{0, 0, false, 0}, {0, 7, true, 0}, {1, 7, true, 28}, {1, 7, false, 0}, {1, 0, true, 0}, {0x100, 7, true, 0x100}, {0x101, 7, true, 0x11c}, {0x101, 11, true, 0x12c}, {0x101, 63, true, 0x1fc}, {0x101, 63, false, 0x100},
		{0x102, 7, true, 0x100}, {0x103, 7, true, 0x11c}, {0x103, 7, false, 0x100}, {ones, 0, true, ones - 3}, {ones, 1, true, 0}, {ones, 5, true, 16}, {ones, 5, false, ones - 3}, {0x80000001, 3, true, 0x8000000c},
	} {
		x := api.Trap{Cause: c.cause, Interrupt: c.interrupt}
		f := csr.File{Mode: api.Machine, Mtvec: c.vector, Stvec: 0x5551}
		if got := Enter(&f, x, 0); got != c.want || f.Mtvec != c.vector {
			t.Errorf("machine, %+v: %#x", c, got)
		}
		f = csr.File{Mode: api.User, Medeleg: ones, Mideleg: ones, Stvec: c.vector, Mtvec: 0x5551}
		if got := Enter(&f, x, 0); got != c.want || f.Stvec != c.vector {
			t.Errorf("supervisor, %+v: %#x", c, got)
		}
	}
}

// P9.2: every word of the bits that are moved, in each mode, delegated and not, interrupts and others; nothing else changes.
func TestEnterEveryStatus(t *testing.T) {
	for _, m := range modes {
		for _, status := range statuses(sie, mie, spie, mpie, spp, mpp, mpp+1, mprv) {
			for i, lists := range [][2]uint64{{0, 0}, {ones, 0}, {0, ones}, {ones, ones}} {
				for _, x := range []api.Trap{{Cause: 0}, {Cause: 15, Value: ones}, {Cause: 9, Interrupt: true}, {Cause: 11, Value: 1, Interrupt: true}} {
					f := counted(m)
					f.Status, f.Medeleg, f.Mideleg = status, lists[0], lists[1]
					f.Mtvec, f.Stvec = f.Mtvec&^1+uint64(i%2), f.Stvec&^1+uint64(i%2)
					pc := status + uint64(i)
					want, to := entered(f, x, pc)
					if got := Enter(&f, x, pc); got != to || f != want {
						t.Fatalf("%+v in mode %d with %#x: %#x, not %#x; %+v, not %+v", x, m, status, got, to, f, want)
					}
				}
			}
		}
	}
}

// P9.2: every cause on many files, with vectors and places whose two lowest bits are each number.
func TestEnterEveryCause(t *testing.T) {
	chance := rand.New(rand.NewSource(2))
	for _, x := range someTraps() {
		for _, before := range someFiles() {
			for low := range uint64(4) {
				f, pc := before, chance.Uint64()&^3+low
				f.Mtvec, f.Stvec = f.Mtvec&^3+low, f.Stvec&^3+(low+uint64(x.Cause))%4
				want, to := entered(f, x, pc)
				if got := Enter(&f, x, pc); got != to || f != want {
					t.Fatalf("%+v at %#x of %+v: %#x, not %#x; %+v, not %+v", x, pc, before, got, to, f, want)
				}
			}
		}
	}
}

// P9.2: the chapter's own example.
func TestExample(t *testing.T) {
	f := csr.Begin()
	f.Write(csr.Mtvec, 0x101)
	if to := Enter(&f, api.Trap{Cause: api.TimerMachine, Interrupt: true}, 0x80000000); to != 0x11c || f.Read(csr.Mcause) != 0x8000000000000007 {
		t.Errorf("%#x, %#x", to, f.Read(csr.Mcause))
	}
}
