package alu

import (
	"math"
	"math/big"

	"vireo/api"
)

// The model reckons with numbers as great as one likes, and cuts what comes of it to so many bits at the end.

func unsigned(w uint64, bits uint) *big.Int {
	n := new(big.Int).SetUint64(w)
	return n.Mod(n, power(bits))
}

func signed(w uint64, bits uint) *big.Int {
	n := unsigned(w, bits)
	if n.Cmp(power(bits-1)) >= 0 {
		n.Sub(n, power(bits))
	}
	return n
}

func power(n uint) *big.Int { return new(big.Int).Exp(big.NewInt(2), big.NewInt(int64(n)), nil) }

// ofNumber: the word of 64 bits that writes a number with its sign.
func ofNumber(n *big.Int) uint64 { return new(big.Int).Mod(n, power(64)).Uint64() }

// reckoning: what comes of two words' parts of so many bits, as a number.
type reckoning func(a, b uint64, bits uint) *big.Int

func sum(a, b uint64, bits uint) *big.Int {
	return new(big.Int).Add(unsigned(a, bits), unsigned(b, bits))
}

func difference(a, b uint64, bits uint) *big.Int {
	return new(big.Int).Sub(unsigned(a, bits), unsigned(b, bits))
}

func left(a, b uint64, bits uint) *big.Int {
	return new(big.Int).Mul(unsigned(a, bits), power(uint(b%uint64(bits))))
}

func rightNoughts(a, b uint64, bits uint) *big.Int {
	return new(big.Int).Div(unsigned(a, bits), power(uint(b%uint64(bits))))
}

// Div goes down below 0, too, as the sign above does.
func rightSign(a, b uint64, bits uint) *big.Int {
	return new(big.Int).Div(signed(a, bits), power(uint(b%uint64(bits))))
}

func lessNumber(a, b uint64, bits uint) *big.Int {
	return one(signed(a, bits).Cmp(signed(b, bits)) < 0)
}

func lessWord(a, b uint64, bits uint) *big.Int {
	return one(unsigned(a, bits).Cmp(unsigned(b, bits)) < 0)
}

func one(is bool) *big.Int {
	if is {
		return big.NewInt(1)
	}
	return big.NewInt(0)
}

// bitByBit: a word each of whose bits is told by how many of the two words' bits are 1.
func bitByBit(is func(ones uint64) bool) reckoning {
	return func(a, b uint64, bits uint) *big.Int {
		n := new(big.Int)
		for i := range bits {
			if is(a>>i%2 + b>>i%2) {
				n.Add(n, power(i))
			}
		}
		return n
	}
}

func xor(a, b uint64, bits uint) *big.Int {
	return bitByBit(func(ones uint64) bool { return ones == 1 })(a, b, bits)
}

func or(a, b uint64, bits uint) *big.Int {
	return bitByBit(func(ones uint64) bool { return ones > 0 })(a, b, bits)
}

func and(a, b uint64, bits uint) *big.Int {
	return bitByBit(func(ones uint64) bool { return ones == 2 })(a, b, bits)
}

// row: an operation of P5.1, with how many bits it reckons.
type row struct {
	name string
	op   int
	bits uint
	do   reckoning
}

var rows = []row{
	{"add", api.Add, 64, sum}, {"addi", api.Addi, 64, sum}, {"sub", api.Sub, 64, difference},
	{"sll", api.Sll, 64, left}, {"slli", api.Slli, 64, left},
	{"srl", api.Srl, 64, rightNoughts}, {"srli", api.Srli, 64, rightNoughts},
	{"sra", api.Sra, 64, rightSign}, {"srai", api.Srai, 64, rightSign},
	{"slt", api.Slt, 64, lessNumber}, {"slti", api.Slti, 64, lessNumber},
	{"sltu", api.Sltu, 64, lessWord}, {"sltiu", api.Sltiu, 64, lessWord},
	{"xor", api.Xor, 64, xor}, {"xori", api.Xori, 64, xor},
	{"or", api.Or, 64, or}, {"ori", api.Ori, 64, or},
	{"and", api.And, 64, and}, {"andi", api.Andi, 64, and},
	{"addw", api.Addw, 32, sum}, {"addiw", api.Addiw, 32, sum}, {"subw", api.Subw, 32, difference},
	{"sllw", api.Sllw, 32, left}, {"slliw", api.Slliw, 32, left},
	{"srlw", api.Srlw, 32, rightNoughts}, {"srliw", api.Srliw, 32, rightNoughts},
	{"sraw", api.Sraw, 32, rightSign}, {"sraiw", api.Sraiw, 32, rightSign},
}

// want: what an operation makes of two words, with the sign of its part above.
func (r row) want(a, b uint64) uint64 {
	n := new(big.Int).Mod(r.do(a, b, r.bits), power(r.bits))
	return ofNumber(signed(n.Uint64(), r.bits))
}

// noOps: numbers that name no operation, below the first and above the last.
func noOps() []int {
	return []int{
		math.MinInt, math.MinInt + 1, math.MinInt32, -api.LastOp, -api.Add, -api.Beq, -api.Lb, -2, -1, 0,
		api.LastOp + 1, api.LastOp + 2, 127, 128, 255, 256, 256 + api.Add, 1 << 16, 1<<16 + api.Beq, 1<<32 + api.Add, 1<<32 + api.Beq, 1<<32 + api.Lb,
		math.MaxInt32, math.MaxInt - 1, math.MaxInt,
	}
}

// others: every number at hand that isn't among some, operations and not.
func others(some ...int) []int {
	list := noOps()
	for op := api.Lui; op <= api.LastOp; op++ {
		named := false
		for _, o := range some {
			named = named || o == op
		}
		if !named {
			list = append(list, op)
		}
	}
	return list
}

// someWords: small ones, those about the highest bits of bytes, halves and wholes, and some without any order.
func someWords() []uint64 {
	list := []uint64{
		0, 1, 2, 3, 5, 30, 31, 32, 33, 62, 63, 64, 65, 95, 96, 127, 128,
		0x0123456789abcdef, 0xfedcba9876543210, 0xaaaaaaaaaaaaaaaa, 0x5555555555555555,
		0x8000000080000000, 0x8000000180000001, 0x00000000deadbeef, 0xdeadbeef00000000, 0x7fffffff80000000, 0x800000007fffffff,
		0xffffffff0000001f, 0xffffffffffffffc0, 0xffffffffffffffe0, 0x8000000000000020, 0x800000000000003f,
	}
	for _, n := range []uint{7, 8, 15, 16, 31, 32, 62, 63} {
		at := uint64(1) << n
		list = append(list, at-2, at-1, at, at+1, -at, -at-1, -at+1)
	}
	return append(list, math.MaxUint64-1, math.MaxUint64)
}
