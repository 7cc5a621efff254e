package csr

import (
	"math"
	"testing"

	"vireo/api"
)

var modes = []api.Mode{api.User, api.Supervisor, api.Machine}

// access: what may be done with a register where nothing is hidden and nothing is forbidden by Status: by the user, the supervisor, the machine.
type access struct {
	number int
	reads  [3]bool
	writes [3]bool
}

func accesses() []access {
	none := [3]bool{}
	every, two, one := [3]bool{true, true, true}, [3]bool{false, true, true}, [3]bool{false, false, true}
	var list []access
	for _, n := range []int{0x100, 0x104, 0x105, 0x106, 0x140, 0x141, 0x142, 0x143, 0x144, 0x180} {
		list = append(list, access{n, two, two})
	}
	for _, n := range []int{0x300, 0x301, 0x302, 0x303, 0x304, 0x305, 0x306, 0x340, 0x341, 0x342, 0x343, 0x344, 0xb00, 0xb02} {
		list = append(list, access{n, one, one})
	}
	for _, n := range []int{0xc00, 0xc01, 0xc02} {
		list = append(list, access{n, every, none})
	}
	for _, n := range []int{0xf11, 0xf12, 0xf13, 0xf14} {
		list = append(list, access{n, one, none})
	}
	return list
}

// P8.3: every register in every mode, to be read and to be written.
func TestMay(t *testing.T) {
	list := accesses()
	if len(list) != 31 {
		t.Fatalf("%d registers", len(list))
	}
	for _, a := range list {
		for i, m := range modes {
			f := File{Mode: m, Mcounteren: 7, Scounteren: 7}
			if got := f.May(a.number, false); got != a.reads[i] {
				t.Errorf("%s, to be read in mode %d: %v", Name(a.number), m, got)
			}
			if got := f.May(a.number, true); got != a.writes[i] {
				t.Errorf("%s, to be written in mode %d: %v", Name(a.number), m, got)
			}
		}
	}
}

// P8.3: what isn't Known may not be, in the machine's mode either.
func TestMayNoRegister(t *testing.T) {
	for _, n := range otherNumbers() {
		for _, m := range append(modes, math.MaxInt) {
			f := File{Mode: m, Mcounteren: ones, Scounteren: ones}
			if f.May(n, false) || f.May(n, true) {
				t.Errorf("%#x in mode %d", n, m)
			}
		}
	}
}

// P8.3: TVM keeps satp from the supervisor; from the machine not, and no other register.
func TestMayTVM(t *testing.T) {
	for _, a := range accesses() {
		for i, m := range modes {
			for _, status := range []uint64{0, 1 << 20, ones, ones - 1<<20} {
				f := File{Mode: m, Status: status, Mcounteren: 7, Scounteren: 7}
				forbids := a.number == 0x180 && m == api.Supervisor && status>>20%2 == 1
				if got := f.May(a.number, false); got != (a.reads[i] && !forbids) {
					t.Errorf("%s, to be read in mode %d with %#x: %v", Name(a.number), m, status, got)
				}
				if got := f.May(a.number, true); got != (a.writes[i] && !forbids) {
					t.Errorf("%s, to be written in mode %d with %#x: %v", Name(a.number), m, status, got)
				}
			}
		}
	}
}

// P8.3: each bit of Mcounteren and of Scounteren lets its own counter be read.
func TestMayCounters(t *testing.T) {
	for bit, n := range []int{0xc00, 0xc01, 0xc02} {
		for machine := range uint64(16) {
			for super := range uint64(16) {
				open, both := machine>>bit%2 == 1, machine>>bit%2 == 1 && super>>bit%2 == 1
				for i, want := range []bool{both, open, true} {
					f := File{Mode: modes[i], Mcounteren: machine, Scounteren: super}
					if got := f.May(n, false); got != want {
						t.Errorf("%s in mode %d with %#x and %#x: %v", Name(n), modes[i], machine, super, got)
					}
					if f.May(n, true) {
						t.Errorf("%s may be written in mode %d with %#x and %#x", Name(n), modes[i], machine, super)
					}
				}
			}
		}
	}
}

// P8.3: no other register hangs on them.
func TestMayWithoutCounters(t *testing.T) {
	for _, a := range accesses() {
		if a.number>>8 == 0xc {
			continue
		}
		for i, m := range modes {
			for _, f := range []File{{Mode: m}, {Mode: m, Mcounteren: 7}, {Mode: m, Scounteren: 7}} {
				if f.May(a.number, false) != a.reads[i] || f.May(a.number, true) != a.writes[i] {
					t.Errorf("%s: %+v", Name(a.number), f)
				}
			}
		}
	}
}

// P8.3, P1: modes that there are not are held against the others by their numbers.
func TestMayOddModes(t *testing.T) {
	for _, c := range []struct {
		mode         api.Mode
		number       int
		write, wants bool
	}{
		{2, 0x100, true, true}, {2, 0x300, false, false}, {2, 0x180, true, true}, {2, 0xc00, false, false}, {4, 0x300, true, true}, {4, 0xf11, true, false}, {4, 0xc00, false, true},
		{-1, 0xc00, false, false}, {-1, 0x100, false, false}, {math.MinInt, 0x300, false, false}, {math.MaxInt, 0x300, true, true},
	} {
		f := File{Mode: c.mode, Status: 1 << 20}
		if got := f.May(c.number, c.write); got != c.wants {
			t.Errorf("%#x, %v in mode %d: %v", c.number, c.write, c.mode, got)
		}
	}
}
