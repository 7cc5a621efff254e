package trap

import (
	"testing"

	"vireo/api"
	"vireo/csr"
)

var causes = []int{1, 3, 5, 7, 9, 11}

func tells(t *testing.T, f csr.File, cause int) {
	t.Helper()
	want, there := api.Trap{Cause: cause, Interrupt: true}, true
	if cause < 0 {
		want, there = api.Trap{}, false
	}
	before := f
	if got, ok := Next(&f); got != want || ok != there || f != before {
		t.Errorf("Next: %+v, %v, not %+v, %v; of %+v, now %+v", got, ok, want, there, before, f)
	}
}

// P9.3: nothing pending, nothing in Mie, or neither: nothing.
func TestNextNone(t *testing.T) {
	for _, m := range modes {
		for _, mideleg := range []uint64{0, 0x222, ones} {
			tells(t, csr.File{Mode: m, Status: ones, Mideleg: mideleg}, -1)
			tells(t, csr.File{Mode: m, Status: ones, Mideleg: mideleg, Mie: ones}, -1)
			tells(t, csr.File{Mode: m, Status: ones, Mideleg: mideleg, Soft: ones, Lines: ones}, -1)
			tells(t, csr.File{Mode: m, Status: ones, Mideleg: mideleg, Soft: 0x222, Mie: 0x888}, -1)
		}
	}
}

// P9.3: one pending: whom it interrupts.
func TestNextOne(t *testing.T) {
	for _, cause := range causes {
		bit := uint64(1) << cause
		for _, f := range []csr.File{{Soft: bit, Mie: bit}, {Lines: bit, Mie: bit}, {Soft: bit, Lines: bit, Mie: ones}, {Soft: ones, Mie: bit}} {
			for _, c := range []struct {
				mode   api.Mode
				status uint64
				mine   bool // the machine's: it isn't in Mideleg
				taken  bool
			}{
				{api.Machine, 0, true, false}, {api.Machine, 8, true, true}, {api.Machine, 2, true, false}, {api.Machine, ones, true, true}, {api.Machine, ones - 8, true, false},
				{api.Supervisor, 0, true, true}, {api.Supervisor, 8, true, true}, {api.Supervisor, 2, true, true}, {api.User, 0, true, true}, {api.User, ones, true, true},
				{api.Machine, 0, false, false}, {api.Machine, 8, false, false}, {api.Machine, 10, false, false}, {api.Machine, ones, false, false},
				{api.Supervisor, 0, false, false}, {api.Supervisor, 8, false, false}, {api.Supervisor, 2, false, true}, {api.Supervisor, ones, false, true}, {api.Supervisor, ones - 2, false, false},
				{api.User, 0, false, true}, {api.User, 8, false, true}, {api.User, 2, false, true}, {api.User, ones, false, true},
			} {
				f.Mode, f.Status, f.Mideleg = c.mode, c.status, bit
				if c.mine {
					f.Mideleg = ones - bit
				}
				want := -1
				if c.taken {
					want = cause
				}
				tells(t, f, want)
			}
		}
	}
}

// P9.3: several pending: the order 11, 3, 7, 9, 1, 5, to the machine and to the supervisor.
func TestNextOrder(t *testing.T) {
	for _, c := range []struct {
		pending uint64
		want    int
	}{
		{0xaaa, 11}, {0x2aa, 3}, {0x2a2, 7}, {0x222, 9}, {0x22, 1}, {0x20, 5}, {0x822, 11}, {0x88, 3}, {0x280, 7}, {0x220, 9}, {0xa, 3}, {0x28, 3}, {0xa0, 7}, {0x82, 7}, {0x208, 3}, {0x808, 11}, {0x880, 11}, {0xa00, 11}, {0x202, 9},
	} {
		tells(t, csr.File{Mode: api.Machine, Status: 8, Soft: c.pending, Mie: ones}, c.want)
		tells(t, csr.File{Mode: api.Supervisor, Lines: c.pending, Mie: ones}, c.want)
		tells(t, csr.File{Mode: api.User, Soft: c.pending & 0xf0f, Lines: c.pending & 0xf0, Mie: 0xaaa}, c.want)
		tells(t, csr.File{Mode: api.Supervisor, Status: 2, Soft: c.pending, Mie: 0xaaa, Mideleg: ones}, c.want)
		tells(t, csr.File{Mode: api.User, Lines: c.pending, Mie: c.pending, Mideleg: 0xaaa}, c.want)
	}
}

// P9.3: what is the machine's goes first, even where the order has it behind; where there is none of it, the supervisor's.
func TestNextMachineFirst(t *testing.T) {
	for _, c := range []struct {
		mode                  api.Mode
		status                uint64
		pending, mie, mideleg uint64
		want                  int
	}{
		{api.User, 0, 0x220, 0x220, 0x200, 5}, {api.User, 0, 0x220, 0x200, 0x200, 9}, {api.User, 0, 0x220, 0x20, 0x200, 5}, {api.Supervisor, 2, 0x222, 0x222, 0x202, 5}, {api.Supervisor, 0, 0x222, 0x222, 0x202, 5},
		{api.Supervisor, 2, 0x222, 0x202, 0x222, 9}, {api.Supervisor, 0, 0x222, 0x202, 0x222, -1}, {api.Supervisor, 8, 0x222, 0x202, 0x222, -1}, {api.Machine, 8, 0x222, 0x222, 0x200, 1}, {api.Machine, 10, 0x222, 0x222, 0x222, -1}, {api.Machine, 2, 0x222, 0x222, 0x20, -1},
		{api.User, 0, 0xaaa, 0xaaa, 0xa8a, 5}, {api.User, 0, 0xaaa, 0xa8a, 0xa8a, 11}, {api.User, 0, 0xaaa, 0x8a, 0x20a, 7},
	} {
		tells(t, csr.File{Mode: c.mode, Status: c.status, Soft: c.pending, Mie: c.mie, Mideleg: c.mideleg}, c.want)
	}
}

// P9.3: bits that name none of the six are never told.
func TestNextNoInterrupt(t *testing.T) {
	for _, m := range modes {
		for _, mideleg := range []uint64{0, ones, 0x222, ones - 0xaaa} {
			for n := range 64 {
				if bit := uint64(1) << n; bit&0xaaa == 0 {
					tells(t, csr.File{Mode: m, Status: ones, Soft: bit, Lines: bit, Mie: ones, Mideleg: mideleg}, -1)
				}
			}
			tells(t, csr.File{Mode: m, Status: ones, Soft: ones - 0xaaa, Mie: ones, Mideleg: mideleg}, -1)
		}
	}
}

// spread: the six lowest bits of a number, laid to the places of the six interrupts.
func spread(n uint64) uint64 {
	w := uint64(0)
	for i, cause := range causes {
		w = with(w, cause, at(n, i))
	}
	return w
}

// P9.3: all that can be pending, in Mie and in Mideleg, in each mode, with SIE and MIE 0 and 1, held against the model.
func TestNextAll(t *testing.T) {
	for _, m := range modes {
		for _, status := range statuses(sie, mie) {
			for n := range uint64(1 << 12) {
				f := csr.File{Mode: m, Status: status, Mideleg: spread(n), Mie: spread(n >> 6)}
				for pending := range uint64(1 << 6) {
					f.Soft, f.Lines = spread(pending)&0x222, spread(pending)&0x888
					got, ok := Next(&f)
					if want := next(f); ok != (want >= 0) || ok && got != (api.Trap{Cause: want, Interrupt: true}) || !ok && got != (api.Trap{}) {
						t.Fatalf("%+v: %+v, %v, not %d", f, got, ok, want)
					}
				}
			}
		}
	}
}

// P9.3: files of all kinds, held against the model.
func TestNextFiles(t *testing.T) {
	for _, f := range someFiles() {
		tells(t, f, next(f))
	}
}
