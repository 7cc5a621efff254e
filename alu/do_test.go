package alu

import (
	"math"
	"testing"

	"vireo/api"
)

const top = 1 << 63 // the highest bit alone

type doCase struct{ a, b, want uint64 }

// doAll: operations that do the same, with and without i, at some words.
func doAll(t *testing.T, ops []int, list []doCase) {
	t.Helper()
	for _, op := range ops {
		for _, c := range list {
			if w, ok := Do(op, c.a, c.b); !ok || w != c.want {
				t.Errorf("Do(%d, %#x, %#x): %#x, %v, not %#x", op, c.a, c.b, w, ok, c.want)
			}
		}
	}
}

// P5.1: sums and differences, those beyond 64 bits, too.

func TestAdd(t *testing.T) {
	doAll(t, []int{api.Add, api.Addi}, []doCase{
		{0, 0, 0}, {1, 2, 3}, {5, math.MaxUint64, 4}, {math.MaxUint64, 1, 0}, {math.MaxUint64, math.MaxUint64, math.MaxUint64 - 1},
		{top, top, 0}, {top - 1, 1, top}, {0x7fffffff, 1, 0x80000000}, {0xffffffff, 1, 0x100000000},
		{0xfffffffffffff800, 0x7ff, math.MaxUint64},
	})
}

func TestSub(t *testing.T) {
	doAll(t, []int{api.Sub}, []doCase{
		{0, 0, 0}, {3, 2, 1}, {2, 3, math.MaxUint64}, {0, 1, math.MaxUint64}, {0, math.MaxUint64, 1}, {0, top, top},
		{top, 1, top - 1}, {1, top, top + 1}, {0x100000000, 1, 0xffffffff}, {0, 0x80000000, 0xffffffff80000000},
	})
}

// P5.1: shifts by the six lowest bits alone.

func TestSll(t *testing.T) {
	doAll(t, []int{api.Sll, api.Slli}, []doCase{
		{0x0123456789abcdef, 0, 0x0123456789abcdef}, {0x0123456789abcdef, 4, 0x123456789abcdef0}, {1, 31, 0x80000000}, {1, 32, 0x100000000},
		{1, 63, top}, {3, 63, top}, {1, 64, 1}, {1, 65, 2}, {top, 1, 0}, {5, top, 5}, {5, math.MaxUint64, top}, {5, 0xffffffffffffffc1, 10},
	})
}

func TestSrl(t *testing.T) {
	doAll(t, []int{api.Srl, api.Srli}, []doCase{
		{0xfedcba9876543210, 0, 0xfedcba9876543210}, {0xfedcba9876543210, 4, 0x0fedcba987654321}, {top, 31, 0x100000000}, {top, 32, 0x80000000},
		{top, 63, 1}, {top - 1, 63, 0}, {top, 64, top}, {top, 65, top >> 1}, {5, top, 5}, {top, math.MaxUint64, 1}, {10, 0xffffffffffffffc1, 5},
	})
}

func TestSra(t *testing.T) {
	doAll(t, []int{api.Sra, api.Srai}, []doCase{
		{0xfedcba9876543210, 0, 0xfedcba9876543210}, {0xfedcba9876543210, 4, 0xffedcba987654321}, {0x7edcba9876543210, 4, 0x07edcba987654321},
		{top, 31, 0xffffffff00000000}, {top, 32, 0xffffffff80000000}, {top, 63, math.MaxUint64}, {top - 1, 63, 0}, {top, 64, top},
		{top, 65, 0xc000000000000000}, {0xfffffffffffffff6, top + 1, 0xfffffffffffffffb}, {top, math.MaxUint64, math.MaxUint64}, {10, 0xffffffffffffffc1, 5},
	})
}

// P5.1: which is less, as numbers with a sign and as words.

func TestSlt(t *testing.T) {
	doAll(t, []int{api.Slt, api.Slti}, []doCase{
		{0, 0, 0}, {1, 2, 1}, {2, 1, 0}, {math.MaxUint64, 0, 1}, {0, math.MaxUint64, 0}, {top, top - 1, 1}, {top - 1, top, 0},
		{top, top, 0}, {top, math.MaxUint64, 1}, {math.MaxUint64, top, 0}, {0x80000000, 0, 0}, {0x80000000, 0x7fffffff, 0},
	})
}

func TestSltu(t *testing.T) {
	doAll(t, []int{api.Sltu, api.Sltiu}, []doCase{
		{0, 0, 0}, {1, 2, 1}, {2, 1, 0}, {math.MaxUint64, 0, 0}, {0, math.MaxUint64, 1}, {top, top - 1, 0}, {top - 1, top, 1},
		{top, top, 0}, {top, math.MaxUint64, 1}, {math.MaxUint64, top, 0}, {0x100000000, 1, 0}, {1, 0x100000000, 1},
	})
}

// P5.1: bit by bit.

func TestXorOrAnd(t *testing.T) {
	const a, b = 0xff00ff000f0f3355, 0xf0f0f0f0aaaa5533
	doAll(t, []int{api.Xor, api.Xori}, []doCase{{a, b, 0x0ff00ff0a5a56666}, {a, a, 0}, {a, 0, a}, {0, b, b}, {a, math.MaxUint64, 0x00ff00fff0f0ccaa}})
	doAll(t, []int{api.Or, api.Ori}, []doCase{{a, b, 0xfff0fff0afaf7777}, {a, a, a}, {a, 0, a}, {0, b, b}, {a, math.MaxUint64, math.MaxUint64}})
	doAll(t, []int{api.And, api.Andi}, []doCase{{a, b, 0xf000f0000a0a1111}, {a, a, a}, {a, 0, 0}, {0, b, 0}, {a, math.MaxUint64, a}})
}

// P5.1: the low halves; what is above them in the words doesn't count, and the sign stands above what comes of it.

func TestAddw(t *testing.T) {
	doAll(t, []int{api.Addw, api.Addiw}, []doCase{
		{0x7fffffff, 1, 0xffffffff80000000}, {1, 2, 3}, {0xffffffff, 1, 0}, {0x80000000, 0x80000000, 0}, {0x1234567800000001, 0x8765432100000002, 3},
		{0xffffffff, 0xffffffff, 0xfffffffffffffffe}, {math.MaxUint64, 1, 0}, {0x80000000, 0, 0xffffffff80000000}, {0x7fffffff, 0, 0x7fffffff},
		{0x180000000, math.MaxUint64, 0x7fffffff}, {top, 0, 0},
	})
}

func TestSubw(t *testing.T) {
	doAll(t, []int{api.Subw}, []doCase{
		{3, 2, 1}, {0, 1, math.MaxUint64}, {0x80000000, 1, 0x7fffffff}, {0, 0x80000000, 0xffffffff80000000}, {0x7fffffff, 0xffffffff, 0xffffffff80000000},
		{0x1234567800000003, 0x8765432100000002, 1}, {0x100000000, 1, math.MaxUint64}, {top, 0, 0}, {0, top, 0},
	})
}

func TestSllw(t *testing.T) {
	doAll(t, []int{api.Sllw, api.Slliw}, []doCase{
		{1, 0, 1}, {0x80000000, 0, 0xffffffff80000000}, {0xf00000001, 4, 16}, {1, 30, 0x40000000}, {1, 31, 0xffffffff80000000}, {1, 32, 1}, {1, 33, 2},
		{1, 63, 0xffffffff80000000}, {1, 64, 1}, {0x80000000, 1, 0}, {0xc0000000, 1, 0xffffffff80000000}, {5, top, 5}, {5, 0xffffffffffffffe1, 10},
		{1, math.MaxUint64, 0xffffffff80000000},
	})
}

func TestSrlw(t *testing.T) {
	doAll(t, []int{api.Srlw, api.Srliw}, []doCase{
		{0xffffffff80000000, 31, 1}, {0x80000000, 0, 0xffffffff80000000}, {0x80000000, 1, 0x40000000}, {0xffffffff00000000, 1, 0}, {0xffffffff7fffffff, 31, 0},
		{0x80000000, 32, 0xffffffff80000000}, {0x80000000, 33, 0x40000000}, {0x80000000, 63, 1}, {0x7fffffff, 64, 0x7fffffff}, {5, top, 5},
		{10, 0xffffffffffffffe1, 5}, {0x80000000, math.MaxUint64, 1},
	})
}

func TestSraw(t *testing.T) {
	doAll(t, []int{api.Sraw, api.Sraiw}, []doCase{
		{0x80000000, 31, math.MaxUint64}, {0x80000000, 0, 0xffffffff80000000}, {0x80000000, 1, 0xffffffffc0000000}, {0xffffffff00000000, 1, 0},
		{0xffffffff7fffffff, 31, 0}, {0xffffffff7fffffff, 1, 0x3fffffff}, {0x80000000, 32, 0xffffffff80000000}, {0x80000000, 33, 0xffffffffc0000000},
		{0x80000000, 63, math.MaxUint64}, {0x7fffffff, 64, 0x7fffffff}, {0xfffffff6, top + 1, 0xfffffffffffffffb}, {10, 0xffffffffffffffe1, 5},
	})
}

// P5.1: each operation at all pairs of words, held against numbers as great as one likes.
func TestDoByModel(t *testing.T) {
	words := someWords()
	for _, r := range rows {
		for _, a := range words {
			for _, b := range words {
				if w, ok := Do(r.op, a, b); !ok || w != r.want(a, b) {
					t.Fatalf("%s of %#x and %#x: %#x, %v, not %#x", r.name, a, b, w, ok, r.want(a, b))
				}
			}
		}
	}
}

// P5.1: every count that a shift might be by, with bits set above those that count and without; the others are asked, too.
func TestEveryCount(t *testing.T) {
	for _, r := range rows {
		for _, a := range []uint64{1, top, math.MaxUint64, 0x80000000, 0x7fffffff, 0x0123456789abcdef, 0xfedcba9876543210} {
			for n := range uint64(130) {
				for _, b := range []uint64{n, n | top, n | 0xffffffff00000000, n | 0xffffffffffffff00} {
					if w, ok := Do(r.op, a, b); !ok || w != r.want(a, b) {
						t.Fatalf("%s of %#x and %#x: %#x, %v, not %#x", r.name, a, b, w, ok, r.want(a, b))
					}
				}
			}
		}
	}
}

// P5.1: others tell 0 and false, whatever the words are.
func TestDoOfOthers(t *testing.T) {
	var named []int
	for _, r := range rows {
		named = append(named, r.op)
	}
	for _, op := range others(named...) {
		for _, a := range someWords() {
			for _, b := range []uint64{0, 1, a, ^a, math.MaxUint64} {
				if w, ok := Do(op, a, b); w != 0 || ok {
					t.Fatalf("Do(%d, %#x, %#x): %#x, %v", op, a, b, w, ok)
				}
			}
		}
	}
}

// P5.5
func TestSubUndoesAdd(t *testing.T) {
	for _, a := range someWords() {
		for _, b := range someWords() {
			both, _ := Do(api.Add, a, b)
			if w, ok := Do(api.Sub, both, b); !ok || w != a {
				t.Errorf("%#x and %#x together, less the second: %#x, %v", a, b, w, ok)
			}
			less, _ := Do(api.Sub, a, b)
			if w, ok := Do(api.Add, less, b); !ok || w != a {
				t.Errorf("%#x less %#x, and that to it: %#x, %v", a, b, w, ok)
			}
		}
	}
}
