package mul

import (
	"math/big"
	"testing"

	"vireo/api"
)

type doCase struct{ a, b, want uint64 }

func doAll(t *testing.T, op int, list []doCase) {
	t.Helper()
	for _, c := range list {
		if w, ok := Do(op, c.a, c.b); !ok || w != c.want {
			t.Errorf("Do(%d, %#x, %#x): %#x, %v, not %#x", op, c.a, c.b, w, ok, c.want)
		}
	}
}

// neg: the word of a number below 0.
func neg(n uint64) uint64 { return -n }

// P6.2: products.

func TestMul(t *testing.T) {
	doAll(t, api.Mul, []doCase{
		{0, 0, 0}, {3, 5, 15}, {0, ones, 0}, {1, ones, ones}, {ones, ones, 1}, {neg(3), 5, neg(15)}, {neg(3), neg(5), 15},
		{top, 1, top}, {top, 2, 0}, {top, top, 0}, {top, ones, top}, {1 << 32, 1 << 32, 0}, {1 << 31, 1 << 32, top},
		{0xffffffff, 0xffffffff, 0xfffffffe00000001}, {0x123456789, 0x10, 0x1234567890},
	})
}

func TestMulHigh(t *testing.T) {
	doAll(t, api.Mulh, []doCase{
		{0, ones, 0}, {1, 1, 0}, {ones, ones, 0}, {1, ones, ones}, {ones, 1, ones}, {top, top, 1 << 62}, {top, ones, 0}, {ones, top, 0},
		{top, 2, ones}, {2, top, ones}, {top - 1, top - 1, 1<<62 - 1}, {top - 1, top, 3 << 62},
	})
	doAll(t, api.Mulhsu, []doCase{
		{0, ones, 0}, {1, 1, 0}, {ones, ones, ones}, {1, ones, 0}, {ones, 1, ones}, {top, top, 3 << 62}, {top, ones, top}, {ones, top, ones},
		{top, 2, ones}, {2, top, 1}, {top - 1, top - 1, 1<<62 - 1}, {top - 1, top, 1<<62 - 1},
	})
	doAll(t, api.Mulhu, []doCase{
		{0, ones, 0}, {1, 1, 0}, {ones, ones, ones - 1}, {1, ones, 0}, {ones, 1, 0}, {top, top, 1 << 62}, {top, ones, top - 1}, {ones, top, top - 1},
		{top, 2, 1}, {2, top, 1}, {top - 1, top - 1, 1<<62 - 1}, {top - 1, top, 1<<62 - 1},
	})
}

func TestMulw(t *testing.T) {
	doAll(t, api.Mulw, []doCase{
		{3, 5, 15}, {0xffffffff, 1, ones}, {0xffffffff, 0xffffffff, 1}, {0x10000, 0x8000, 0xffffffff80000000}, {0x10000, 0x10000, 0},
		{0x80000000, 1, 0xffffffff80000000}, {0x80000000, 2, 0}, {0x80000000, 0xffffffff, 0xffffffff80000000}, {0x7fffffff, 2, neg(2)},
		{0x1234567800000003, 0x8765432100000005, 15}, {0xffffffff00000003, neg(5), neg(15)}, {top, ones, 0}, {0x100000000, 1, 0},
	})
}

// P6.2: quotients towards 0, and rests with a's sign.

func TestDivRem(t *testing.T) {
	doAll(t, api.Div, []doCase{
		{7, 2, 3}, {neg(7), 2, neg(3)}, {7, neg(2), neg(3)}, {neg(7), neg(2), 3}, {6, 3, 2}, {1, 2, 0}, {neg(1), 2, 0}, {0, 5, 0},
		{0, 0, ones}, {7, 0, ones}, {neg(7), 0, ones}, {top, 0, ones}, {ones, 0, ones},
		{top, ones, top}, {top, 1, top}, {top, 2, 3 << 62}, {top, top, 1}, {top - 1, ones, top + 1}, {top - 1, top, 0}, {top, top - 1, ones}, {ones, top, 0},
		{0x80000000, 0xffffffff, 0}, {0xffffffff80000000, ones, 0x80000000},
	})
	doAll(t, api.Rem, []doCase{
		{7, 2, 1}, {neg(7), 2, neg(1)}, {7, neg(2), 1}, {neg(7), neg(2), neg(1)}, {6, 3, 0}, {1, 2, 1}, {neg(1), 2, neg(1)}, {0, 5, 0},
		{0, 0, 0}, {7, 0, 7}, {neg(7), 0, neg(7)}, {top, 0, top}, {ones, 0, ones},
		{top, ones, 0}, {top, 1, 0}, {top, 2, 0}, {top, top, 0}, {top - 1, ones, 0}, {top - 1, top, top - 1}, {top, top - 1, ones}, {ones, top, ones},
		{0x80000000, 0xffffffff, 0x80000000}, {0xffffffff80000000, ones, 0},
	})
}

func TestDivuRemu(t *testing.T) {
	doAll(t, api.Divu, []doCase{
		{7, 2, 3}, {neg(7), 2, 0x7ffffffffffffffc}, {7, neg(2), 0}, {neg(7), neg(2), 0}, {neg(2), neg(7), 1}, {0, 5, 0},
		{0, 0, ones}, {7, 0, ones}, {top, 0, ones}, {ones, 0, ones},
		{top, ones, 0}, {ones, top, 1}, {top, 1, top}, {top, 2, 1 << 62}, {ones, 1, ones}, {ones, ones, 1}, {0x100000000, 0x10000, 0x10000},
	})
	doAll(t, api.Remu, []doCase{
		{7, 2, 1}, {neg(7), 2, 1}, {7, neg(2), 7}, {neg(7), neg(2), neg(7)}, {neg(2), neg(7), 5}, {0, 5, 0},
		{0, 0, 0}, {7, 0, 7}, {top, 0, top}, {ones, 0, ones},
		{top, ones, top}, {ones, top, top - 1}, {top, 1, 0}, {top, 3, 2}, {ones, 1, 0}, {ones, ones, 0}, {0x100000001, 0x10000, 1},
	})
}

// P6.2: the low halves; what is above them in the words doesn't count, and the sign stands above what comes of it.

func TestDivwRemw(t *testing.T) {
	doAll(t, api.Divw, []doCase{
		{7, 2, 3}, {0xfffffff9, 2, neg(3)}, {7, 0xfffffffe, neg(3)}, {0xfffffff9, 0xfffffffe, 3}, {neg(7), neg(2), 3}, {0x12345678fffffff9, 0x8765432100000002, neg(3)},
		{0, 0, ones}, {7, 0, ones}, {0x80000000, 0, ones}, {7, 0x1234567800000000, ones}, {0xffffffff00000000, 0, ones},
		{0x80000000, 0xffffffff, 0xffffffff80000000}, {0xffffffff80000000, ones, 0xffffffff80000000}, {0x1280000000, 0x12ffffffff, 0xffffffff80000000},
		{0x80000000, 1, 0xffffffff80000000}, {0x80000000, 2, 0xffffffffc0000000}, {0x80000000, 0x80000000, 1}, {0x7fffffff, 0xffffffff, 0xffffffff80000001},
		{0x80000000, 0x7fffffff, ones}, {top, 1, 0}, {top, ones, 0},
	})
	doAll(t, api.Remw, []doCase{
		{7, 2, 1}, {0xfffffff9, 2, ones}, {7, 0xfffffffe, 1}, {0xfffffff9, 0xfffffffe, ones}, {neg(7), neg(2), ones}, {0x12345678fffffff9, 0x8765432100000002, ones},
		{0, 0, 0}, {7, 0, 7}, {0x80000000, 0, 0xffffffff80000000}, {0x1234567887654321, 0, 0xffffffff87654321}, {7, 0x1234567800000000, 7}, {0xffffffff00000000, 0, 0},
		{0x80000000, 0xffffffff, 0}, {0xffffffff80000000, ones, 0}, {0x1280000000, 0x12ffffffff, 0},
		{0x80000000, 1, 0}, {0x80000000, 3, neg(2)}, {0x80000000, 0x80000000, 0}, {0x7fffffff, 0x80000000, 0x7fffffff}, {0x80000001, 0x80000000, 0xffffffff80000001},
	})
}

func TestDivuwRemuw(t *testing.T) {
	doAll(t, api.Divuw, []doCase{
		{7, 2, 3}, {0xfffffff9, 2, 0x7ffffffc}, {0xffffffff, 1, ones}, {0x80000000, 1, 0xffffffff80000000}, {0x80000000, 0xffffffff, 0}, {0xffffffff, 0x80000000, 1},
		{0, 0, ones}, {7, 0, ones}, {7, 0x1234567800000000, ones}, {0xffffffff, 0, ones},
		{ones, ones, 1}, {neg(7), 2, 0x7ffffffc}, {0x1234567800000007, 0x8765432100000002, 3}, {top, 1, 0}, {0x100000000, 1, 0},
	})
	doAll(t, api.Remuw, []doCase{
		{7, 2, 1}, {0xfffffff9, 2, 1}, {0xffffffff, 1, 0}, {0x80000000, 0xffffffff, 0xffffffff80000000}, {0xffffffff, 0x80000000, 0x7fffffff}, {0xfffffffe, 0xffffffff, neg(2)},
		{0, 0, 0}, {7, 0, 7}, {7, 0x1234567800000000, 7}, {0x1234567887654321, 0, 0xffffffff87654321}, {0xffffffff, 0, ones},
		{ones, ones, 0}, {neg(7), 10, 9}, {0x1234567800000007, 0x8765432100000002, 1}, {top, 3, 0}, {0x100000001, 7, 1},
	})
}

// P6.2: each operation at all pairs of words, held against numbers as great as one likes.
func TestDoByModel(t *testing.T) {
	words := someWords()
	for _, r := range rows {
		for _, a := range words {
			for _, b := range words {
				if w, ok := Do(r.op, a, b); !ok || w != r.want(a, b) {
					t.Fatalf("%s of %#x and %#x: %#x, %v, not %#x", r.name, a, b, w, ok, r.want(a, b))
				}
			}
		}
	}
}

// P6.2: others tell 0 and false, whatever the words are.
func TestDoOfOthers(t *testing.T) {
	var named []int
	for _, r := range rows {
		named = append(named, r.op)
	}
	for _, op := range others(named...) {
		for _, a := range someWords() {
			for _, b := range []uint64{0, 1, 3, a, ^a, ones} {
				if w, ok := Do(op, a, b); w != 0 || ok {
					t.Fatalf("Do(%d, %#x, %#x): %#x, %v", op, a, b, w, ok)
				}
			}
		}
	}
}

// P6.3: in as many bits as the operations take, and as whole numbers wherever the quotient has room in them.
func TestTogether(t *testing.T) {
	for _, pair := range []struct {
		div, rem int
		bits     uint
		as       reading
	}{
		{api.Div, api.Rem, 64, signed}, {api.Divu, api.Remu, 64, unsigned},
		{api.Divw, api.Remw, 32, signed}, {api.Divuw, api.Remuw, 32, unsigned},
	} {
		for _, a := range someWords() {
			for _, b := range someWords() {
				q, okQ := Do(pair.div, a, b)
				r, okR := Do(pair.rem, a, b)
				number, by := pair.as(a, pair.bits), pair.as(b, pair.bits)
				sum := product(pair.as(q, pair.bits), by)
				sum.Add(sum, pair.as(r, pair.bits))
				if !okQ || !okR || part(sum, 0, pair.bits) != part(number, 0, pair.bits) {
					t.Errorf("%d and %d of %#x and %#x: %#x and %#x, together %#x", pair.div, pair.rem, a, b, q, r, sum)
				}
				if !leastByMinusOne(number, by, pair.bits) && sum.Cmp(number) != 0 {
					t.Errorf("%d and %d of %#x and %#x: %#x and %#x, together %#x as a whole", pair.div, pair.rem, a, b, q, r, sum)
				}
			}
		}
	}
}

// leastByMinusOne: the one quotient that has no room in so many bits.
func leastByMinusOne(a, b *big.Int, bits uint) bool {
	return a.Cmp(new(big.Int).Neg(power(bits-1))) == 0 && b.Cmp(big.NewInt(-1)) == 0
}
