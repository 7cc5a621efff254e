package alu

import (
	"math"
	"testing"

	"vireo/api"
)

var branches = []int{api.Beq, api.Bne, api.Blt, api.Bge, api.Bltu, api.Bgeu}

// P5.2: words alike, less and greater, with the highest bit in none, in one and in both.
func TestTaken(t *testing.T) {
	for _, c := range []struct {
		a, b                           uint64
		beq, bne, blt, bge, bltu, bgeu bool
	}{
		{0, 0, true, false, false, true, false, true},
		{7, 7, true, false, false, true, false, true},
		{top, top, true, false, false, true, false, true},
		{math.MaxUint64, math.MaxUint64, true, false, false, true, false, true},
		{1, 2, false, true, true, false, true, false},
		{2, 1, false, true, false, true, false, true},
		{0, math.MaxUint64, false, true, false, true, true, false},
		{math.MaxUint64, 0, false, true, true, false, false, true},
		{top - 1, top, false, true, false, true, true, false},
		{top, top - 1, false, true, true, false, false, true},
		{top, math.MaxUint64, false, true, true, false, true, false},
		{math.MaxUint64, top, false, true, false, true, false, true},
		// Alike in their low halves, or less in these and greater as a whole.
		{0x100000000, 0, false, true, false, true, false, true},
		{0x1_00000001, 0x2_00000000, false, true, true, false, true, false},
		{0x80000000, 0x7fffffff, false, true, false, true, false, true},
		{0xffffffff, 0, false, true, false, true, false, true},
	} {
		for i, want := range []bool{c.beq, c.bne, c.blt, c.bge, c.bltu, c.bgeu} {
			if got := Taken(branches[i], c.a, c.b); got != want {
				t.Errorf("Taken(%d, %#x, %#x): %v", branches[i], c.a, c.b, got)
			}
		}
	}
}

// P5.2: all pairs of words, held against numbers as great as one likes.
func TestTakenByModel(t *testing.T) {
	for _, a := range someWords() {
		for _, b := range someWords() {
			numbers, words := signed(a, 64).Cmp(signed(b, 64)), unsigned(a, 64).Cmp(unsigned(b, 64))
			for i, want := range []bool{words == 0, words != 0, numbers < 0, numbers >= 0, words < 0, words >= 0} {
				if got := Taken(branches[i], a, b); got != want {
					t.Fatalf("Taken(%d, %#x, %#x): %v", branches[i], a, b, got)
				}
			}
		}
	}
}

// P5.2: others aren't taken, whatever the words are.
func TestTakenOfOthers(t *testing.T) {
	for _, op := range others(branches...) {
		for _, a := range someWords() {
			for _, b := range []uint64{0, 1, a, ^a, math.MaxUint64} {
				if Taken(op, a, b) {
					t.Fatalf("Taken(%d, %#x, %#x)", op, a, b)
				}
			}
		}
	}
}

// P5.4
func TestOppositeBranches(t *testing.T) {
	for _, pair := range [][2]int{{api.Beq, api.Bne}, {api.Blt, api.Bge}, {api.Bltu, api.Bgeu}} {
		for _, a := range someWords() {
			for _, b := range someWords() {
				if Taken(pair[0], a, b) == Taken(pair[1], a, b) {
					t.Errorf("%v at %#x and %#x: both or none", pair, a, b)
				}
			}
		}
	}
}
