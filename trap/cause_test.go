package trap

import (
	"math"
	"testing"

	"vireo/api"
	"vireo/csr"
)

// P9.5: TW stops all but the machine.
func TestMayWait(t *testing.T) {
	for _, c := range []struct {
		mode   api.Mode
		status uint64
		want   bool
	}{
		{0, 0, true}, {1, 0, true}, {3, 0, true}, {0, 0x200000, false}, {1, 0x200000, false}, {3, 0x200000, true}, {0, ones - 0x200000, true}, {1, ones - 0x200000, true}, {3, ones - 0x200000, true}, {0, ones, false}, {1, ones, false}, {3, ones, true},
		{0, 0x500000, true}, {1, 0x500000, true},
	} {
		f := csr.File{Mode: c.mode, Status: c.status}
		if got := MayWait(&f); got != c.want || f != (csr.File{Mode: c.mode, Status: c.status}) {
			t.Errorf("%+v: %v; %+v", c, got, f)
		}
	}
}

// P9.5: TVM stops the supervisor; the user may never.
func TestMayFence(t *testing.T) {
	for _, c := range []struct {
		mode   api.Mode
		status uint64
		want   bool
	}{
		{0, 0, false}, {1, 0, true}, {3, 0, true}, {0, 0x100000, false}, {1, 0x100000, false}, {3, 0x100000, true}, {0, ones - 0x100000, false}, {1, ones - 0x100000, true}, {3, ones - 0x100000, true}, {0, ones, false}, {1, ones, false}, {3, ones, true},
		{0, 0x600000, false}, {1, 0x600000, true},
	} {
		f := csr.File{Mode: c.mode, Status: c.status}
		if got := MayFence(&f); got != c.want || f != (csr.File{Mode: c.mode, Status: c.status}) {
			t.Errorf("%+v: %v; %+v", c, got, f)
		}
	}
}

// P9.5: by the mode, and by nothing else.
func TestCall(t *testing.T) {
	for m, want := range map[api.Mode]int{0: 8, 1: 9, 3: 11} {
		for _, f := range []csr.File{{Mode: m}, fill(m, func() uint64 { return ones }), counted(m)} {
			if got := Call(&f); got != want {
				t.Errorf("in mode %d: %d", m, got)
			}
		}
	}
}

// P9.5: a fetch, a load, and all else as a store.
func TestFaultAndCrooked(t *testing.T) {
	for _, c := range []struct{ kind, page, access, align int }{
		{api.Fetch, 12, 1, 0}, {api.Load, 13, 5, 4}, {api.Store, 15, 7, 6}, {3, 15, 7, 6}, {4, 15, 7, 6}, {-1, 15, 7, 6}, {-2, 15, 7, 6}, {256, 15, 7, 6}, {1 << 32, 15, 7, 6}, {1<<32 + 1, 15, 7, 6}, {math.MinInt, 15, 7, 6}, {math.MinInt + 1, 15, 7, 6}, {math.MaxInt, 15, 7, 6},
	} {
		if got := Fault(c.kind, true); got != c.page {
			t.Errorf("Fault(%d, true): %d", c.kind, got)
		}
		if got := Fault(c.kind, false); got != c.access {
			t.Errorf("Fault(%d, false): %d", c.kind, got)
		}
		if got := Crooked(c.kind); got != c.align {
			t.Errorf("Crooked(%d): %d", c.kind, got)
		}
	}
}
