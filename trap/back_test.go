package trap

import (
	"testing"

	"vireo/api"
	"vireo/csr"
)

type backCase struct {
	mode   api.Mode
	status uint64
	then   api.Mode
	now    uint64
	may    bool
}

func back(t *testing.T, name string, call func(f *csr.File) (uint64, bool), at uint64, c backCase) {
	t.Helper()
	f := csr.File{Mode: c.mode, Status: c.status, Mepc: 0x1000, Sepc: 0x2000, Mcause: 1, Scause: 2, Mtval: 3, Stval: 4, Mtvec: 0x3001, Stvec: 0x4001, Soft: 0x222, Lines: 0x888}
	want := f
	want.Mode, want.Status = c.then, c.now
	if !c.may {
		at = 0
	}
	if got, ok := call(&f); got != at || ok != c.may || f != want {
		t.Errorf("%s of %+v: %#x, %v; %+v, not %+v", name, c, got, ok, f, want)
	}
}

// P9.4: Mret by hand: MPP of each mode, MPIE and MIE, and MPRV, which stays only where the mode stays the machine's.
func TestMret(t *testing.T) {
	for _, c := range []backCase{
		{3, 0, 0, 0x80, true}, {3, 0x800, 1, 0x80, true}, {3, 0x1800, 3, 0x80, true},
		{3, 0x80, 0, 0x88, true}, {3, 0x8, 0, 0x80, true}, {3, 0x88, 0, 0x88, true}, {3, 0x1880, 3, 0x88, true}, {3, 0x1808, 3, 0x80, true}, {3, 0x808, 1, 0x80, true},
		{3, 0x20000, 0, 0x80, true}, {3, 0x20800, 1, 0x80, true}, {3, 0x21800, 3, 0x20080, true}, {3, 0x21880, 3, 0x20088, true}, {3, 0x20880, 1, 0x88, true},
		{3, 0x122, 0, 0x1a2, true}, {3, 0x400122, 0, 0x4001a2, true}, {3, 0x7e19aa, 3, 0x7e01aa, true}, {3, 0x7e09aa, 1, 0x7c01aa, true}, {3, 0x7e01aa, 0, 0x7c01aa, true},
		{3, ones, 3, ones - 0x1800, true}, {3, ones - 0x1800, 0, ones - 0x21800, true},
		{1, 0, 1, 0, false}, {1, 0x1880, 1, 0x1880, false}, {1, ones, 1, ones, false}, {0, 0, 0, 0, false}, {0, 0x21808, 0, 0x21808, false}, {0, ones, 0, ones, false},
	} {
		back(t, "Mret", Mret, 0x1000, c)
	}
}

// P9.4: Sret by hand: SPP, SPIE and SIE, TSR, which stops the supervisor alone, and MPRV, which is 0 then.
func TestSret(t *testing.T) {
	for _, c := range []backCase{
		{1, 0, 0, 0x20, true}, {1, 0x100, 1, 0x20, true}, {3, 0, 0, 0x20, true}, {3, 0x100, 1, 0x20, true},
		{1, 0x20, 0, 0x22, true}, {1, 0x2, 0, 0x20, true}, {1, 0x22, 0, 0x22, true}, {1, 0x120, 1, 0x22, true}, {3, 0x122, 1, 0x22, true}, {3, 0x102, 1, 0x20, true},
		{1, 0x20000, 0, 0x20, true}, {1, 0x20100, 1, 0x20, true}, {3, 0x20000, 0, 0x20, true}, {3, 0x20120, 1, 0x22, true},
		{1, 0x1888, 0, 0x18a8, true}, {3, 0x1888, 0, 0x18a8, true}, {1, 0x3e19aa, 1, 0x3c18aa, true}, {1, ones - 0x400000, 1, ones - 0x420100, true}, {3, ones, 1, ones - 0x20100, true},
		{3, 0x400000, 0, 0x400020, true}, {3, 0x400120, 1, 0x400022, true},
		{1, 0x400000, 1, 0x400000, false}, {1, 0x420120, 1, 0x420120, false}, {1, ones, 1, ones, false},
		{0, 0, 0, 0, false}, {0, 0x120, 0, 0x120, false}, {0, 0x400000, 0, 0x400000, false}, {0, ones, 0, ones, false}, {0, ones - 0x400000, 0, ones - 0x400000, false},
	} {
		back(t, "Sret", Sret, 0x2000, c)
	}
}

// P9.4: what is told is as it is kept.
func TestBackPlace(t *testing.T) {
	for _, at := range []uint64{0, 4, 0x80000000, ones - 3, ones, 1, 2, 3} {
		f := csr.File{Mode: api.Machine, Mepc: at, Sepc: 0x7777}
		if got, ok := Mret(&f); !ok || got != at || f.Mepc != at {
			t.Errorf("Mret: %#x, %v, not %#x", got, ok, at)
		}
		f = csr.File{Mode: api.Supervisor, Sepc: at, Mepc: 0x7777}
		if got, ok := Sret(&f); !ok || got != at || f.Sepc != at {
			t.Errorf("Sret: %#x, %v, not %#x", got, ok, at)
		}
	}
}

func backAsModel(t *testing.T, before csr.File) {
	t.Helper()
	f := before
	want, to, may := backFromMachine(before)
	if got, ok := Mret(&f); got != to || ok != may || f != want {
		t.Fatalf("Mret of %+v: %#x, %v, not %#x, %v; %+v, not %+v", before, got, ok, to, may, f, want)
	}
	f = before
	want, to, may = backFromSupervisor(before)
	if got, ok := Sret(&f); got != to || ok != may || f != want {
		t.Fatalf("Sret of %+v: %#x, %v, not %#x, %v; %+v, not %+v", before, got, ok, to, may, f, want)
	}
}

// P9.4: every word of the bits that count, in each mode, held against the model; nothing else changes.
func TestBackEveryStatus(t *testing.T) {
	for _, m := range modes {
		f := counted(m)
		for _, status := range statuses(sie, mie, spie, mpie, spp, mpp, mpp+1, mprv, tvm, tw, tsr) {
			f.Status = status
			backAsModel(t, f)
		}
	}
	for _, f := range someFiles() {
		backAsModel(t, f)
	}
}

// P9.6: the way back brings the mode and the permissions that were, whatever was there, and leads to the place where the trap was.
func TestThereAndBack(t *testing.T) {
	for _, m := range modes {
		for _, status := range statuses(sie, mie, spie, mpie, spp, mpp, mpp+1, tsr) {
			for _, x := range []api.Trap{{Cause: 3, Value: 4}, {Cause: 8}, {Cause: 5, Interrupt: true}, {Cause: 11, Interrupt: true}} {
				for _, lists := range [][2]uint64{{0, 0}, {ones, 0}, {0, ones}, {ones, ones}} {
					f := csr.File{Mode: m, Status: status, Medeleg: lists[0], Mideleg: lists[1]}
					thereAndBack(t, f, x)
				}
			}
		}
	}
}

func thereAndBack(t *testing.T, f csr.File, x api.Trap) {
	t.Helper()
	before, super := f, Delegated(&f, x)
	Enter(&f, x, 0x80000127)
	way := Mret
	if super {
		way = Sret
		// TSR would stop the supervisor: that way back there is only without it.
		f.Set(csr.BitTSR, false)
	}
	to, ok := way(&f)
	if !ok || to != 0x80000124 || f.Mode != before.Mode || at(f.Status, sie) != at(before.Status, sie) || at(f.Status, mie) != at(before.Status, mie) {
		t.Fatalf("%+v: %#x, %v; %+v, not as %+v", x, to, ok, f, before)
	}
}

// P9.6: what interrupted may interrupt again behind the way back, and not ahead of it.
func TestInterruptAgain(t *testing.T) {
	for _, m := range modes {
		for _, mideleg := range []uint64{0, 0x222} {
			for _, cause := range causes {
				// What is the supervisor's doesn't interrupt the machine at all.
				if m < api.Machine || !at(mideleg, cause) {
					interruptAgain(t, csr.File{Mode: m, Status: 0xa, Mideleg: mideleg, Mie: 0xaaa, Soft: 1 << cause}, cause)
				}
			}
		}
	}
}

func interruptAgain(t *testing.T, f csr.File, cause int) {
	t.Helper()
	tells(t, f, cause)
	x, way := api.Trap{Cause: cause, Interrupt: true}, Mret
	if Delegated(&f, x) {
		way = Sret
	}
	Enter(&f, x, 0)
	tells(t, f, -1)
	way(&f)
	tells(t, f, cause)
}
