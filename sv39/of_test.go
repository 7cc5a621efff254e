package sv39

import (
	"math"
	"testing"

	"vireo/api"
	"vireo/csr"
)

// status: a word of Status with MPRV, MPP, SUM and MXR, and all else 0 or 1.
func status(rest bool, mprv bool, mpp uint64, sum, mxr bool) uint64 {
	s := uint64(0)
	if rest {
		s = ones - (1<<17 + 3<<11 + 1<<18 + 1<<19)
	}
	s += mpp << 11
	for bit, is := range map[int]bool{17: mprv, 18: sum, 19: mxr} {
		if is {
			s += 1 << bit
		}
	}
	return s
}

// statusCases: every word of these bits.
func statusCases(try func(s uint64, mprv bool, mpp uint64, sum, mxr bool)) {
	for _, rest := range bools {
		for _, mprv := range bools {
			for mpp := range uint64(4) {
				for _, sum := range bools {
					for _, mxr := range bools {
						try(status(rest, mprv, mpp, sum, mxr), mprv, mpp, sum, mxr)
					}
				}
			}
		}
	}
}

// P10.1: each kind, in each mode, with MPRV, MPP, SUM and MXR of every sort.
func TestOf(t *testing.T) {
	for _, mode := range modes {
		for _, kind := range []int{api.Fetch, api.Load, api.Store, -1, 3, math.MinInt, math.MaxInt} {
			for _, satp := range []uint64{0, 0x8000000000080000, 0x8123456789abcdef, ones} {
				statusCases(func(s uint64, mprv bool, mpp uint64, sum, mxr bool) {
					f := csr.File{Mode: mode, Status: s, Satp: satp}
					before := f
					want := Way{Satp: satp, Kind: kind, Mode: mode, Sum: sum, Mxr: mxr}
					if kind != 0 && mode == 3 && mprv {
						want.Mode = api.Mode(mpp)
					}
					if got := Of(&f, kind); got != want {
						t.Errorf("Of(%+v, %d): %+v, not %+v", before, kind, got, want)
					}
					if f != before {
						t.Errorf("Of changed %+v to %+v", before, f)
					}
				})
			}
		}
	}
}

// P10.1: by hand.
func TestOfByHand(t *testing.T) {
	const satp = 0x8000000000080001
	for _, c := range []struct {
		mode   api.Mode
		status uint64
		kind   int
		want   Way
	}{
		{3, 0, 0, Way{Satp: satp, Kind: 0, Mode: 3}},
		{3, 0, 1, Way{Satp: satp, Kind: 1, Mode: 3}},
		{3, 0x20000, 0, Way{Satp: satp, Kind: 0, Mode: 3}}, // a fetch isn't made as MPP
		{3, 0x20000, 1, Way{Satp: satp, Kind: 1, Mode: 0}},
		{3, 0x20000, 2, Way{Satp: satp, Kind: 2, Mode: 0}},
		{3, 0x20800, 1, Way{Satp: satp, Kind: 1, Mode: 1}},
		{3, 0x20800, 2, Way{Satp: satp, Kind: 2, Mode: 1}},
		{3, 0x21800, 2, Way{Satp: satp, Kind: 2, Mode: 3}},
		{3, 0x00800, 2, Way{Satp: satp, Kind: 2, Mode: 3}}, // MPRV is 0
		{1, 0x20000, 1, Way{Satp: satp, Kind: 1, Mode: 1}}, // not below the machine
		{1, 0x21800, 2, Way{Satp: satp, Kind: 2, Mode: 1}},
		{0, 0x21800, 1, Way{Satp: satp, Kind: 1, Mode: 0}},
		{0, 0x20800, 2, Way{Satp: satp, Kind: 2, Mode: 0}},
		{1, 0x40000, 1, Way{Satp: satp, Kind: 1, Mode: 1, Sum: true}},
		{1, 0x80000, 1, Way{Satp: satp, Kind: 1, Mode: 1, Mxr: true}},
		{1, 0xc0000, 0, Way{Satp: satp, Kind: 0, Mode: 1, Sum: true, Mxr: true}},
	} {
		f := csr.File{Mode: c.mode, Status: c.status, Satp: satp}
		if got := Of(&f, c.kind); got != c.want {
			t.Errorf("%+v: %+v", c, got)
		}
	}
}

// P10.1: each mode, each number of Satp's bits 60 to 63, with the other bits 0 and 1.
func TestBare(t *testing.T) {
	for _, mode := range modes {
		for scheme := range uint64(16) {
			for _, rest := range []uint64{0, 0x80000, 1<<60 - 1} {
				for _, kind := range kinds {
					way := Way{Satp: scheme<<60 + rest, Kind: kind, Mode: mode, Sum: true, Mxr: true}
					if got, want := way.Bare(), mode == 3 || scheme != 8; got != want {
						t.Errorf("%+v: %v", way, got)
					}
				}
			}
		}
	}
	if !(Way{}).Bare() {
		t.Errorf("no way isn't bare")
	}
}

// P10.1: a mode that there is not isn't the machine's.
func TestBareOfOtherModes(t *testing.T) {
	for _, mode := range []api.Mode{math.MinInt, -1, 2, 4, math.MaxInt} {
		if (Way{Mode: mode, Satp: satp8}).Bare() || !(Way{Mode: mode}).Bare() {
			t.Errorf("in mode %d", mode)
		}
	}
}

// P10.1: the bits 38 to 63 all 0, all 1, and mixed.
func TestProper(t *testing.T) {
	for _, c := range []struct {
		va   uint64
		want bool
	}{
		{0, true}, {1, true}, {0x80001234, true}, {0x3fffffffff, true}, {0x2000000000, true}, {0x4000000000, false}, {0x7fffffffff, false}, {0x8000000000, false},
		{ones, true}, {0xffffffc000000000, true}, {0xffffffc000000001, true}, {0xffffffffffff0000, true}, {0xffffffbfffffffff, false}, {0xffffff8000000000, false}, {0xffffff7fffffffff, false},
		{0x7fffffffffffffff, false}, {0x8000000000000000, false}, {0xffffffff, true}, {0x100000000000, false}, {0xfffffff000000000, true},
	} {
		if got := Proper(c.va); got != c.want {
			t.Errorf("Proper(%#x): %v", c.va, got)
		}
	}
	for bit := range 64 {
		for _, low := range []uint64{0, 1<<38 - 1} {
			one, hole := uint64(1)<<bit^low, ^(uint64(1)<<bit)&^low
			if got, want := Proper(one), bit < 38; got != want {
				t.Errorf("Proper(%#x): %v", one, got)
			}
			if got, want := Proper(hole), bit < 38; got != want {
				t.Errorf("Proper(%#x): %v", hole, got)
			}
		}
	}
}
