package csr

import (
	"math"
	"testing"

	"vireo/api"
)

// P8.1: the machine's mode, and all else 0.
func TestBegin(t *testing.T) {
	if f := Begin(); f != (File{Mode: api.Machine}) || f.Mode != 3 {
		t.Errorf("%+v", f)
	}
}

// P8.1: Soft and Lines together, and nothing else.
func TestPending(t *testing.T) {
	for _, c := range []struct{ soft, lines, want uint64 }{
		{0, 0, 0}, {2, 0, 2}, {0, 0x80, 0x80}, {2, 0x80, 0x82}, {0x200, 0x200, 0x200}, {0x222, 0xa88, 0xaaa}, {ones, 0, ones}, {0, ones, ones}, {1 << 63, 1, 1<<63 + 1},
	} {
		f := fill(func() uint64 { return ones })
		f.Soft, f.Lines = c.soft, c.lines
		if got := f.Pending(); got != c.want {
			t.Errorf("of %#x and %#x: %#x", c.soft, c.lines, got)
		}
	}
}

// P8.1: the bits of a88 are taken, no others, and nothing but Lines changes.
func TestHold(t *testing.T) {
	for _, c := range []struct{ lines, want uint64 }{
		{0, 0}, {0x8, 0x8}, {0x80, 0x80}, {0x200, 0x200}, {0x800, 0x800}, {0xa88, 0xa88}, {ones, 0xa88}, {0x222, 0x200}, {ones - 0xa88, 0}, {1, 0}, {2, 0}, {0x20, 0}, {1 << 63, 0},
	} {
		for _, f := range someFiles() {
			want := f
			want.Lines = c.want
			if f.Hold(c.lines); f != want {
				t.Errorf("%#x: %+v, not %+v", c.lines, f, want)
			}
		}
	}
	for _, lines := range someWords() {
		f := Begin()
		if f.Hold(lines); f.Lines != take(0, lines, linePlaces...) {
			t.Errorf("%#x: %#x", lines, f.Lines)
		}
	}
}

// P8.4: every bit of Status, set and cleared, and nothing else.
func TestSetAndIs(t *testing.T) {
	for _, f := range someFiles() {
		for bit := range 64 {
			for _, is := range []bool{true, false, false, true} {
				want := f
				want.Status &^= 1 << bit
				if is {
					want.Status |= 1 << bit
				}
				if f.Set(bit, is); f != want || f.Is(bit) != is {
					t.Fatalf("Set(%d, %v): %+v, %v, not %+v", bit, is, f, f.Is(bit), want)
				}
			}
		}
	}
}

// P8.4: Is, of words whose other bits are all unlike.
func TestIs(t *testing.T) {
	for _, w := range someWords() {
		f := File{Status: w}
		for bit := range 64 {
			if got := f.Is(bit); got != at(w, bit) {
				t.Errorf("bit %d of %#x: %v", bit, w, got)
			}
		}
	}
}

// P1: bits that there are not are false, and setting them does nothing.
func TestNoBit(t *testing.T) {
	for _, bit := range []int{math.MinInt, -64, -1, 64, 65, 128, 256 + 3, 1<<32 + 3, math.MaxInt} {
		for _, f := range someFiles() {
			before := f
			if f.Is(bit) {
				t.Errorf("Is(%d)", bit)
			}
			f.Set(bit, true)
			f.Set(bit, false)
			if f != before {
				t.Errorf("Set(%d): %+v, not %+v", bit, f, before)
			}
		}
	}
}

// P8.4: what is kept at 11 and 12, whatever stands about it.
func TestPrevious(t *testing.T) {
	for _, c := range []struct {
		status uint64
		want   api.Mode
	}{
		{0, 0}, {0x800, 1}, {0x1000, 2}, {0x1800, 3}, {0x400, 0}, {0x2000, 0}, {ones, 3}, {ones - 0x1800, 0}, {ones - 0x1000, 1}, {ones - 0x800, 2}, {0xa007e19aa, 3}, {0x7e01aa, 0},
	} {
		f := File{Mode: api.Supervisor, Status: c.status}
		if got := f.Previous(); got != c.want || f != (File{Mode: api.Supervisor, Status: c.status}) {
			t.Errorf("of %#x: %d; %+v", c.status, got, f)
		}
	}
}

// P8.4: 0 to 3 are kept, and nothing else changes.
func TestKeep(t *testing.T) {
	for _, f := range someFiles() {
		for _, m := range []api.Mode{0, 1, 2, 3, 2, 1, 0, 3} {
			want := f
			want.Status = f.Status&^0x1800 | uint64(m)*0x800
			if f.Keep(m); f != want || f.Previous() != m {
				t.Errorf("Keep(%d): %+v, %d, not %+v", m, f, f.Previous(), want)
			}
		}
	}
}

// P1: what is none of 0 to 3 isn't taken.
func TestKeepNoMode(t *testing.T) {
	for _, m := range []api.Mode{math.MinInt, -4, -1, 4, 5, 7, 1 << 32, math.MaxInt} {
		for _, f := range someFiles() {
			before := f
			if f.Keep(m); f != before {
				t.Errorf("Keep(%d): %+v, not %+v", m, f, before)
			}
		}
	}
}
