package mul

import (
	"math"
	"math/big"

	"vireo/api"
)

// The model reckons with numbers as great as one likes, and cuts what comes of it to so many bits at the end.

func unsigned(w uint64, bits uint) *big.Int {
	n := new(big.Int).SetUint64(w)
	return n.Mod(n, power(bits))
}

func signed(w uint64, bits uint) *big.Int {
	n := unsigned(w, bits)
	if n.Cmp(power(bits-1)) >= 0 {
		n.Sub(n, power(bits))
	}
	return n
}

func power(n uint) *big.Int { return new(big.Int).Exp(big.NewInt(2), big.NewInt(int64(n)), nil) }

// part: so many bits of a number from one on, as a word. Div and Mod go down below 0, too, as the bits of a sign do.
func part(n *big.Int, from, bits uint) uint64 {
	high := new(big.Int).Div(n, power(from))
	return high.Mod(high, power(bits)).Uint64()
}

// reading: a word's part of so many bits as a number, with a sign or without.
type reading func(w uint64, bits uint) *big.Int

func product(a, b *big.Int) *big.Int { return new(big.Int).Mul(a, b) }

// divided: the quotient of what stands without signs, the sign put to it, so that it is towards 0.
func divided(a, b *big.Int) *big.Int {
	if b.Sign() == 0 {
		return big.NewInt(-1)
	}
	q := new(big.Int).Div(new(big.Int).Abs(a), new(big.Int).Abs(b))
	if a.Sign()*b.Sign() < 0 {
		q.Neg(q)
	}
	return q
}

// left: what a quotient leaves, found without it: of a's sign, as much as is left of a without its sign.
func left(a, b *big.Int) *big.Int {
	if b.Sign() == 0 {
		return a
	}
	r := new(big.Int).Mod(new(big.Int).Abs(a), new(big.Int).Abs(b))
	if a.Sign() < 0 {
		r.Neg(r)
	}
	return r
}

// row: an operation of P6.2, with how many bits it takes and how, and from which bit on it tells what comes of it.
type row struct {
	name   string
	op     int
	bits   uint
	ra, rb reading
	do     func(a, b *big.Int) *big.Int
	from   uint
}

var rows = []row{
	{"mul", api.Mul, 64, unsigned, unsigned, product, 0},
	{"mulh", api.Mulh, 64, signed, signed, product, 64},
	{"mulhsu", api.Mulhsu, 64, signed, unsigned, product, 64},
	{"mulhu", api.Mulhu, 64, unsigned, unsigned, product, 64},
	{"mulw", api.Mulw, 32, unsigned, unsigned, product, 0},
	{"div", api.Div, 64, signed, signed, divided, 0},
	{"divu", api.Divu, 64, unsigned, unsigned, divided, 0},
	{"divw", api.Divw, 32, signed, signed, divided, 0},
	{"divuw", api.Divuw, 32, unsigned, unsigned, divided, 0},
	{"rem", api.Rem, 64, signed, signed, left, 0},
	{"remu", api.Remu, 64, unsigned, unsigned, left, 0},
	{"remw", api.Remw, 32, signed, signed, left, 0},
	{"remuw", api.Remuw, 32, unsigned, unsigned, left, 0},
}

// want: what an operation makes of two words, with the sign of its part above.
func (r row) want(a, b uint64) uint64 {
	n := r.do(r.ra(a, r.bits), r.rb(b, r.bits))
	return part(signed(part(n, r.from, r.bits), r.bits), 0, 64)
}

// noOps: numbers that name no operation, below the first and above the last.
func noOps() []int {
	return []int{
		math.MinInt, math.MinInt + 1, math.MinInt32, -api.LastOp, -api.Mul, -api.Div, -api.Remuw, -2, -1, 0,
		api.LastOp + 1, api.LastOp + 2, 127, 128, 255, 256, 256 + api.Mul, 1 << 16, 1<<16 + api.Div, 1<<32 + api.Mul, 1<<32 + api.Rem, 1<<32 + api.Remuw,
		math.MaxInt32, math.MaxInt - 1, math.MaxInt,
	}
}

// others: every number at hand that isn't among some, operations and not.
func others(some ...int) []int {
	list := noOps()
	for op := api.Lui; op <= api.LastOp; op++ {
		named := false
		for _, o := range some {
			named = named || o == op
		}
		if !named {
			list = append(list, op)
		}
	}
	return list
}

// someWords: small ones of either sign, those about the highest bits of halves and wholes, words whose halves differ, and some without any order.
func someWords() []uint64 {
	list := []uint64{
		0, 1, 2, 3, 5, 7, 10, 100, 12345,
		0x0123456789abcdef, 0xfedcba9876543210, 0xaaaaaaaaaaaaaaaa, 0x5555555555555555,
		0x8000000080000000, 0x8000000180000001, 0x00000000deadbeef, 0xdeadbeef00000000, 0x7fffffff80000000, 0x800000007fffffff,
		0x1234567800000000, 0x12345678ffffffff, 0x1234567880000000, 0xffffffff00000007, 0x00000001fffffff9, 0xfffffffe00000000,
	}
	for _, n := range []uint64{2, 3, 5, 7, 10, 100, 12345} {
		list = append(list, -n)
	}
	for _, n := range []uint{15, 16, 31, 32, 33, 62, 63} {
		at := uint64(1) << n
		list = append(list, at-1, at, at+1, -at, -at-1, -at+1)
	}
	return append(list, math.MaxUint64-1, math.MaxUint64)
}
