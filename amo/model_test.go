package amo

import (
	"math"
	"math/big"

	"vireo/api"
)

const (
	top  = 1 << 63 // the highest bit alone: the least number
	ones = math.MaxUint64
	half = 0xffffffff // the 32 lowest bits
)

// The model reckons with numbers as great as one likes, and cuts what comes of it to so many bits at the end.

func power(n uint) *big.Int { return new(big.Int).Lsh(big.NewInt(1), n) }

func unsigned(w uint64, bits uint) *big.Int {
	n := new(big.Int).SetUint64(w)
	return n.Mod(n, power(bits))
}

func signed(w uint64, bits uint) *big.Int {
	n := unsigned(w, bits)
	if n.Cmp(power(bits-1)) >= 0 {
		n.Sub(n, power(bits))
	}
	return n
}

// cut: so many of a number's lowest bits, as a word. Mod goes down below 0, too, as the bits of a sign do.
func cut(n *big.Int, bits uint) uint64 { return new(big.Int).Mod(n, power(bits)).Uint64() }

func second(a, b *big.Int) *big.Int { return b }
func sum(a, b *big.Int) *big.Int    { return new(big.Int).Add(a, b) }
func xor(a, b *big.Int) *big.Int    { return new(big.Int).Xor(a, b) }
func and(a, b *big.Int) *big.Int    { return new(big.Int).And(a, b) }
func or(a, b *big.Int) *big.Int     { return new(big.Int).Or(a, b) }

func less(a, b *big.Int) *big.Int {
	if a.Cmp(b) < 0 {
		return a
	}
	return b
}

func greater(a, b *big.Int) *big.Int {
	if a.Cmp(b) > 0 {
		return a
	}
	return b
}

// row: an operation of P7.2, with how many bits it takes, how they are read, and what comes of them.
type row struct {
	name string
	op   int
	bits uint
	read func(w uint64, bits uint) *big.Int
	do   func(a, b *big.Int) *big.Int
}

var rows = []row{
	{"amoswap.w", api.AmoswapW, 32, unsigned, second},
	{"amoadd.w", api.AmoaddW, 32, unsigned, sum},
	{"amoxor.w", api.AmoxorW, 32, unsigned, xor},
	{"amoand.w", api.AmoandW, 32, unsigned, and},
	{"amoor.w", api.AmoorW, 32, unsigned, or},
	{"amomin.w", api.AmominW, 32, signed, less},
	{"amomax.w", api.AmomaxW, 32, signed, greater},
	{"amominu.w", api.AmominuW, 32, unsigned, less},
	{"amomaxu.w", api.AmomaxuW, 32, unsigned, greater},
	{"amoswap.d", api.AmoswapD, 64, unsigned, second},
	{"amoadd.d", api.AmoaddD, 64, unsigned, sum},
	{"amoxor.d", api.AmoxorD, 64, unsigned, xor},
	{"amoand.d", api.AmoandD, 64, unsigned, and},
	{"amoor.d", api.AmoorD, 64, unsigned, or},
	{"amomin.d", api.AmominD, 64, signed, less},
	{"amomax.d", api.AmomaxD, 64, signed, greater},
	{"amominu.d", api.AmominuD, 64, unsigned, less},
	{"amomaxu.d", api.AmomaxuD, 64, unsigned, greater},
}

func (r row) want(old, reg uint64) uint64 {
	return cut(r.do(r.read(old, r.bits), r.read(reg, r.bits)), r.bits)
}

// reserving and storing are the operations beside those of P7.2; wides are all of 64 bits.
var (
	reserving = []int{api.LrW, api.LrD}
	storing   = []int{api.ScW, api.ScD}
	wides     = []int{
		api.LrD, api.ScD, api.AmoswapD, api.AmoaddD, api.AmoxorD, api.AmoandD, api.AmoorD,
		api.AmominD, api.AmomaxD, api.AmominuD, api.AmomaxuD,
	}
)

func making() []int {
	var list []int
	for _, r := range rows {
		list = append(list, r.op)
	}
	return list
}

// noOps: numbers that name no operation, below the first and above the last, some of which would name one if they were cut.
func noOps() []int {
	return []int{
		math.MinInt, math.MinInt + 1, math.MinInt + api.LrD, math.MinInt32, -api.LastOp, -api.AmomaxuD, -api.LrD, -api.LrW, -api.ScD, -2, -1, 0,
		api.LastOp + 1, api.LastOp + 2, 127, 128, 255, 256, 256 + api.LrW, 256 + api.ScD, 1 << 16, 1<<16 + api.AmoaddD,
		1<<32 + api.LrD, 1<<32 + api.ScW, 1<<32 + api.AmoswapW, 1<<32 + api.AmomaxuD, math.MaxInt32, math.MaxInt - 1, math.MaxInt,
	}
}

// others: every number at hand that isn't among some, operations and not.
func others(some ...int) []int {
	list := noOps()
	for op := api.Lui; op <= api.LastOp; op++ {
		named := false
		for _, o := range some {
			named = named || o == op
		}
		if !named {
			list = append(list, op)
		}
	}
	return list
}

// someWords: small ones of either sign, those about the highest bits of halves and wholes, and words whose halves differ.
func someWords() []uint64 {
	list := []uint64{
		0, 1, 2, 3, 100, 12345,
		0x0123456789abcdef, 0xfedcba9876543210, 0xaaaaaaaaaaaaaaaa, 0x5555555555555555,
		0x8000000080000000, 0x8000000180000001, 0x00000000deadbeef, 0xdeadbeef00000000, 0x7fffffff80000000, 0x800000007fffffff,
		0x1234567800000000, 0x12345678ffffffff, 0x1234567880000000, 0xffffffff00000007, 0x00000001fffffff9, 0xfffffffe00000000,
	}
	for _, n := range []uint64{2, 3, 100, 12345} {
		list = append(list, -n)
	}
	for _, n := range []uint{15, 16, 31, 32, 33, 62, 63} {
		at := uint64(1) << n
		list = append(list, at-1, at, at+1, -at, -at-1, -at+1)
	}
	return append(list, ones-1, ones)
}
