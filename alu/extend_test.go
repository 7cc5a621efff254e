package alu

import (
	"math"
	"testing"

	"vireo/api"
)

var loads = []int{api.Lb, api.Lh, api.Lw, api.Lbu, api.Lhu, api.Lwu}

// P5.3: with and without the highest bit of what is read, and with bits above it.
func TestExtend(t *testing.T) {
	for _, c := range []struct {
		op      int
		w, want uint64
	}{
		{api.Lb, 0, 0}, {api.Lb, 0x7f, 0x7f}, {api.Lb, 0x80, 0xffffffffffffff80}, {api.Lb, 0xff, math.MaxUint64},
		{api.Lb, 0x100, 0}, {api.Lb, 0xffffffffffffff7f, 0x7f}, {api.Lb, 0x12345680, 0xffffffffffffff80},
		{api.Lh, 0, 0}, {api.Lh, 0x80, 0x80}, {api.Lh, 0x7fff, 0x7fff}, {api.Lh, 0x8000, 0xffffffffffff8000}, {api.Lh, 0xffff, math.MaxUint64},
		{api.Lh, 0x10000, 0}, {api.Lh, 0xffffffffffff7fff, 0x7fff}, {api.Lh, 0x12348000, 0xffffffffffff8000},
		{api.Lw, 0, 0}, {api.Lw, 0x8000, 0x8000}, {api.Lw, 0x7fffffff, 0x7fffffff}, {api.Lw, 0x80000000, 0xffffffff80000000}, {api.Lw, 0xffffffff, math.MaxUint64},
		{api.Lw, 0x100000000, 0}, {api.Lw, 0xffffffff7fffffff, 0x7fffffff}, {api.Lw, 0x1234567880000000, 0xffffffff80000000},
		{api.Lbu, 0, 0}, {api.Lbu, 0x7f, 0x7f}, {api.Lbu, 0x80, 0x80}, {api.Lbu, 0xff, 0xff}, {api.Lbu, 0x100, 0}, {api.Lbu, math.MaxUint64, 0xff},
		{api.Lhu, 0, 0}, {api.Lhu, 0x7fff, 0x7fff}, {api.Lhu, 0x8000, 0x8000}, {api.Lhu, 0xffff, 0xffff}, {api.Lhu, 0x10000, 0}, {api.Lhu, math.MaxUint64, 0xffff},
		{api.Lwu, 0, 0}, {api.Lwu, 0x7fffffff, 0x7fffffff}, {api.Lwu, 0x80000000, 0x80000000}, {api.Lwu, 0xffffffff, 0xffffffff},
		{api.Lwu, 0x100000000, 0}, {api.Lwu, math.MaxUint64, 0xffffffff},
		{api.Ld, 0x80, 0x80}, {api.Ld, 0x80000000, 0x80000000}, {api.Ld, math.MaxUint64, math.MaxUint64},
	} {
		if got := Extend(c.op, c.w); got != c.want {
			t.Errorf("Extend(%d, %#x): %#x, not %#x", c.op, c.w, got, c.want)
		}
	}
}

// P5.3: all the words, held against numbers as great as one likes.
func TestExtendByModel(t *testing.T) {
	for _, w := range someWords() {
		want := []uint64{
			ofNumber(signed(w, 8)), ofNumber(signed(w, 16)), ofNumber(signed(w, 32)),
			ofNumber(unsigned(w, 8)), ofNumber(unsigned(w, 16)), ofNumber(unsigned(w, 32)),
		}
		for i, op := range loads {
			if got := Extend(op, w); got != want[i] {
				t.Errorf("Extend(%d, %#x): %#x, not %#x", op, w, got, want[i])
			}
		}
	}
}

// P5.3: others let the word be.
func TestExtendOfOthers(t *testing.T) {
	for _, op := range others(loads...) {
		for _, w := range someWords() {
			if got := Extend(op, w); got != w {
				t.Fatalf("Extend(%d, %#x): %#x", op, w, got)
			}
		}
	}
}
