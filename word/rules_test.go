package word

import (
	"math"
	"slices"
	"testing"
)

// P1: every call ends, and none panics, whatever it is given.
func TestEveryArgument(t *testing.T) {
	for _, w := range someWords() {
		Lowest(w)
		Sext32(w)
		Hex(w)
		Dec(int64(w))
		Parse(string(Bytes(w, 8)))
		ParseInt(string(Bytes(w, 8)))
		for _, v := range someWords() {
			Aligned(w, v)
			Within(w, v, v, w)
			Overlap(w, v, v, w)
		}
	}
	for _, at := range someInts() {
		Mask(at)
		Bit(math.MaxUint64, at)
		Bits(at, at)
		Sext(math.MaxUint64, at)
		Bytes(math.MaxUint64, at)
		for _, n := range someInts() {
			Get(math.MaxUint64, at, n)
			Put(math.MaxUint64, at, n, math.MaxUint64)
		}
	}
}

// P2, rule 4: lists that are handed in stay as they are, with their spare room.
func TestListsStay(t *testing.T) {
	ints := []int{3, 70, -1, 5, 9, 9}
	Bits(ints[:3]...)
	if !slices.Equal(ints, []int{3, 70, -1, 5, 9, 9}) {
		t.Errorf("Bits changed its list: %v", ints)
	}
	marks := []bool{false, true, false, true}
	Any(marks[:2]...)
	if !slices.Equal(marks, []bool{false, true, false, true}) {
		t.Errorf("Any changed its list: %v", marks)
	}
	row := []byte{1, 2, 3, 4, 5, 6, 7, 8, 9, 10, 11}
	Of(row[:3]...)
	Of(row...)
	if !slices.Equal(row, []byte{1, 2, 3, 4, 5, 6, 7, 8, 9, 10, 11}) {
		t.Errorf("Of changed its list: %v", row)
	}
}

// P2, rule 4: what Bytes answers shares nothing with another answer.
func TestAnswersAreNew(t *testing.T) {
	for _, n := range []int{1, 8, 9, 4096, 5000} {
		first := Bytes(math.MaxUint64, n)
		kept := slices.Clone(first)
		second := Bytes(math.MaxUint64, n)
		for _, list := range [][]byte{second, second[:cap(second)]} {
			for i := range list {
				list[i] = 0x55
			}
		}
		if !slices.Equal(first, kept) {
			t.Errorf("Bytes of %d: two answers share memory", n)
		}
		if third := Bytes(math.MaxUint64, n); !slices.Equal(third, kept) {
			t.Errorf("Bytes of %d: an answer was kept", n)
		}
	}
}
