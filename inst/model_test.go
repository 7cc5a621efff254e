package inst

import (
	"math"
	"math/rand"

	"vireo/api"
)

// row is an operation as the chapter's table has it.
type row struct {
	op           int
	name, form   string
	code, f3, f7 uint32
}

var rows = []row{
	{api.Lui, "lui", "upper", 0x37, 0x0, 0x0},
	{api.Auipc, "auipc", "upper", 0x17, 0x0, 0x0},
	{api.Jal, "jal", "jump", 0x6f, 0x0, 0x0},
	{api.Jalr, "jalr", "number", 0x67, 0x0, 0x0},
	{api.Beq, "beq", "branch", 0x63, 0x0, 0x0},
	{api.Bne, "bne", "branch", 0x63, 0x1, 0x0},
	{api.Blt, "blt", "branch", 0x63, 0x4, 0x0},
	{api.Bge, "bge", "branch", 0x63, 0x5, 0x0},
	{api.Bltu, "bltu", "branch", 0x63, 0x6, 0x0},
	{api.Bgeu, "bgeu", "branch", 0x63, 0x7, 0x0},
	{api.Lb, "lb", "load", 0x3, 0x0, 0x0},
	{api.Lh, "lh", "load", 0x3, 0x1, 0x0},
	{api.Lw, "lw", "load", 0x3, 0x2, 0x0},
	{api.Ld, "ld", "load", 0x3, 0x3, 0x0},
	{api.Lbu, "lbu", "load", 0x3, 0x4, 0x0},
	{api.Lhu, "lhu", "load", 0x3, 0x5, 0x0},
	{api.Lwu, "lwu", "load", 0x3, 0x6, 0x0},
	{api.Sb, "sb", "store", 0x23, 0x0, 0x0},
	{api.Sh, "sh", "store", 0x23, 0x1, 0x0},
	{api.Sw, "sw", "store", 0x23, 0x2, 0x0},
	{api.Sd, "sd", "store", 0x23, 0x3, 0x0},
	{api.Addi, "addi", "number", 0x13, 0x0, 0x0},
	{api.Slti, "slti", "number", 0x13, 0x2, 0x0},
	{api.Sltiu, "sltiu", "number", 0x13, 0x3, 0x0},
	{api.Xori, "xori", "number", 0x13, 0x4, 0x0},
	{api.Ori, "ori", "number", 0x13, 0x6, 0x0},
	{api.Andi, "andi", "number", 0x13, 0x7, 0x0},
	{api.Slli, "slli", "shift", 0x13, 0x1, 0x0},
	{api.Srli, "srli", "shift", 0x13, 0x5, 0x0},
	{api.Srai, "srai", "shift", 0x13, 0x5, 0x20},
	{api.Add, "add", "three", 0x33, 0x0, 0x0},
	{api.Sub, "sub", "three", 0x33, 0x0, 0x20},
	{api.Sll, "sll", "three", 0x33, 0x1, 0x0},
	{api.Slt, "slt", "three", 0x33, 0x2, 0x0},
	{api.Sltu, "sltu", "three", 0x33, 0x3, 0x0},
	{api.Xor, "xor", "three", 0x33, 0x4, 0x0},
	{api.Srl, "srl", "three", 0x33, 0x5, 0x0},
	{api.Sra, "sra", "three", 0x33, 0x5, 0x20},
	{api.Or, "or", "three", 0x33, 0x6, 0x0},
	{api.And, "and", "three", 0x33, 0x7, 0x0},
	{api.Addiw, "addiw", "number", 0x1b, 0x0, 0x0},
	{api.Slliw, "slliw", "short", 0x1b, 0x1, 0x0},
	{api.Srliw, "srliw", "short", 0x1b, 0x5, 0x0},
	{api.Sraiw, "sraiw", "short", 0x1b, 0x5, 0x20},
	{api.Addw, "addw", "three", 0x3b, 0x0, 0x0},
	{api.Subw, "subw", "three", 0x3b, 0x0, 0x20},
	{api.Sllw, "sllw", "three", 0x3b, 0x1, 0x0},
	{api.Srlw, "srlw", "three", 0x3b, 0x5, 0x0},
	{api.Sraw, "sraw", "three", 0x3b, 0x5, 0x20},
	{api.Fence, "fence", "fence", 0xf, 0x0, 0x0},
	{api.FenceI, "fence.i", "fence", 0xf, 0x1, 0x0},
	{api.Ecall, "ecall", "alone", 0x73, 0x0, 0x0},
	{api.Ebreak, "ebreak", "alone", 0x73, 0x0, 0x1},
	{api.Csrrw, "csrrw", "system", 0x73, 0x1, 0x0},
	{api.Csrrs, "csrrs", "system", 0x73, 0x2, 0x0},
	{api.Csrrc, "csrrc", "system", 0x73, 0x3, 0x0},
	{api.Csrrwi, "csrrwi", "systemi", 0x73, 0x5, 0x0},
	{api.Csrrsi, "csrrsi", "systemi", 0x73, 0x6, 0x0},
	{api.Csrrci, "csrrci", "systemi", 0x73, 0x7, 0x0},
	{api.Mul, "mul", "three", 0x33, 0x0, 0x1},
	{api.Mulh, "mulh", "three", 0x33, 0x1, 0x1},
	{api.Mulhsu, "mulhsu", "three", 0x33, 0x2, 0x1},
	{api.Mulhu, "mulhu", "three", 0x33, 0x3, 0x1},
	{api.Div, "div", "three", 0x33, 0x4, 0x1},
	{api.Divu, "divu", "three", 0x33, 0x5, 0x1},
	{api.Rem, "rem", "three", 0x33, 0x6, 0x1},
	{api.Remu, "remu", "three", 0x33, 0x7, 0x1},
	{api.Mulw, "mulw", "three", 0x3b, 0x0, 0x1},
	{api.Divw, "divw", "three", 0x3b, 0x4, 0x1},
	{api.Divuw, "divuw", "three", 0x3b, 0x5, 0x1},
	{api.Remw, "remw", "three", 0x3b, 0x6, 0x1},
	{api.Remuw, "remuw", "three", 0x3b, 0x7, 0x1},
	{api.LrW, "lr.w", "reserve", 0x2f, 0x2, 0x2},
	{api.ScW, "sc.w", "atomic", 0x2f, 0x2, 0x3},
	{api.AmoswapW, "amoswap.w", "atomic", 0x2f, 0x2, 0x1},
	{api.AmoaddW, "amoadd.w", "atomic", 0x2f, 0x2, 0x0},
	{api.AmoxorW, "amoxor.w", "atomic", 0x2f, 0x2, 0x4},
	{api.AmoandW, "amoand.w", "atomic", 0x2f, 0x2, 0xc},
	{api.AmoorW, "amoor.w", "atomic", 0x2f, 0x2, 0x8},
	{api.AmominW, "amomin.w", "atomic", 0x2f, 0x2, 0x10},
	{api.AmomaxW, "amomax.w", "atomic", 0x2f, 0x2, 0x14},
	{api.AmominuW, "amominu.w", "atomic", 0x2f, 0x2, 0x18},
	{api.AmomaxuW, "amomaxu.w", "atomic", 0x2f, 0x2, 0x1c},
	{api.LrD, "lr.d", "reserve", 0x2f, 0x3, 0x2},
	{api.ScD, "sc.d", "atomic", 0x2f, 0x3, 0x3},
	{api.AmoswapD, "amoswap.d", "atomic", 0x2f, 0x3, 0x1},
	{api.AmoaddD, "amoadd.d", "atomic", 0x2f, 0x3, 0x0},
	{api.AmoxorD, "amoxor.d", "atomic", 0x2f, 0x3, 0x4},
	{api.AmoandD, "amoand.d", "atomic", 0x2f, 0x3, 0xc},
	{api.AmoorD, "amoor.d", "atomic", 0x2f, 0x3, 0x8},
	{api.AmominD, "amomin.d", "atomic", 0x2f, 0x3, 0x10},
	{api.AmomaxD, "amomax.d", "atomic", 0x2f, 0x3, 0x14},
	{api.AmominuD, "amominu.d", "atomic", 0x2f, 0x3, 0x18},
	{api.AmomaxuD, "amomaxu.d", "atomic", 0x2f, 0x3, 0x1c},
	{api.Mret, "mret", "alone", 0x73, 0x0, 0x302},
	{api.Sret, "sret", "alone", 0x73, 0x0, 0x102},
	{api.Wfi, "wfi", "alone", 0x73, 0x0, 0x105},
	{api.SfenceVma, "sfence.vma", "two", 0x73, 0x0, 0x9},
}

// bitsAt is a piece of a part: n of its bits, from the bit from on, stand in the word at the bit at.
type bitsAt struct{ from, n, at int }

// layout is a form as the chapter's table has it.
type layout struct {
	rd, rs1, rs2, csr, order bool
	least, last, step        int64
	imm                      []bitsAt
	f3                       bool
	f7at, f7bits             int // 0 bits: it has no f7
}

var low = []bitsAt{{0, 12, 20}}

var layouts = map[string]layout{
	"upper":   {rd: true, least: -2147483648, last: 2147479552, step: 4096, imm: []bitsAt{{12, 20, 12}}},
	"jump":    {rd: true, least: -1048576, last: 1048574, step: 2, imm: []bitsAt{{20, 1, 31}, {1, 10, 21}, {11, 1, 20}, {12, 8, 12}}},
	"number":  {rd: true, rs1: true, least: -2048, last: 2047, step: 1, imm: low, f3: true},
	"load":    {rd: true, rs1: true, least: -2048, last: 2047, step: 1, imm: low, f3: true},
	"branch":  {rs1: true, rs2: true, least: -4096, last: 4094, step: 2, imm: []bitsAt{{12, 1, 31}, {5, 6, 25}, {1, 4, 8}, {11, 1, 7}}, f3: true},
	"store":   {rs1: true, rs2: true, least: -2048, last: 2047, step: 1, imm: []bitsAt{{5, 7, 25}, {0, 5, 7}}, f3: true},
	"shift":   {rd: true, rs1: true, last: 63, step: 1, imm: []bitsAt{{0, 6, 20}}, f3: true, f7at: 25, f7bits: 7},
	"short":   {rd: true, rs1: true, last: 31, step: 1, imm: []bitsAt{{0, 5, 20}}, f3: true, f7at: 25, f7bits: 7},
	"three":   {rd: true, rs1: true, rs2: true, step: 1, f3: true, f7at: 25, f7bits: 7},
	"fence":   {rd: true, rs1: true, last: 4095, step: 1, imm: low, f3: true},
	"alone":   {step: 1, f7at: 20, f7bits: 12},
	"system":  {rd: true, rs1: true, csr: true, step: 1, f3: true},
	"systemi": {rd: true, csr: true, last: 31, step: 1, imm: []bitsAt{{0, 5, 15}}, f3: true},
	"reserve": {rd: true, rs1: true, order: true, step: 1, f3: true, f7at: 27, f7bits: 5},
	"atomic":  {rd: true, rs1: true, rs2: true, order: true, step: 1, f3: true, f7at: 27, f7bits: 5},
	"two":     {rs1: true, rs2: true, step: 1, f7at: 25, f7bits: 7},
}

// wordOf is the model: the word of an instruction that is right, laid bit by bit from the chapter's two tables.
func wordOf(r row, x api.Instr) uint32 {
	l, w := layouts[r.form], uint32(0)
	lay := func(v int64, from, n, at int) {
		for i := range n {
			if v>>(from+i)&1 == 1 {
				w |= 1 << (at + i)
			}
		}
	}
	lay(int64(r.code), 0, 7, 0)
	if l.f3 {
		lay(int64(r.f3), 0, 3, 12)
	}
	lay(int64(r.f7), 0, l.f7bits, l.f7at)
	if l.rd {
		lay(int64(x.Rd), 0, 5, 7)
	}
	if l.rs1 {
		lay(int64(x.Rs1), 0, 5, 15)
	}
	if l.rs2 {
		lay(int64(x.Rs2), 0, 5, 20)
	}
	if l.csr {
		lay(int64(x.CSR), 0, 12, 20)
	}
	if l.order && x.Aq {
		w |= 1 << 26
	}
	if l.order && x.Rl {
		w |= 1 << 25
	}
	for _, p := range l.imm {
		lay(x.Imm, p.from, p.n, p.at)
	}
	return w
}

// instrOf is the model of Decode: each operation is tried, with the parts that stand where its form has them; it is the one whose word is w.
func instrOf(w uint32) (api.Instr, bool) {
	take := func(at, n int) int { return int(w >> at & (1<<n - 1)) }
	for _, r := range rows {
		l, x := layouts[r.form], api.Instr{Op: r.op}
		if uint32(take(0, 7)) != r.code {
			continue
		}
		if l.rd {
			x.Rd = take(7, 5)
		}
		if l.rs1 {
			x.Rs1 = take(15, 5)
		}
		if l.rs2 {
			x.Rs2 = take(20, 5)
		}
		if l.csr {
			x.CSR = take(20, 12)
		}
		if l.order {
			x.Aq, x.Rl = take(26, 1) == 1, take(25, 1) == 1
		}
		for _, p := range l.imm {
			x.Imm |= int64(take(p.at, p.n)) << p.from
		}
		if x.Imm > l.last { // its highest bit is its sign
			x.Imm -= l.last + l.step - l.least
		}
		if wordOf(r, x) == w {
			return x, true
		}
	}
	return api.Instr{}, false
}

// isRight is the model of Right, for what is an operation.
func isRight(l layout, x api.Instr) bool {
	within := func(has bool, n, last int) bool { return n == 0 || has && n > 0 && n <= last }
	return within(l.rd, x.Rd, 31) && within(l.rs1, x.Rs1, 31) && within(l.rs2, x.Rs2, 31) && within(l.csr, x.CSR, 4095) &&
		(l.order || !x.Aq && !x.Rl) &&
		l.least <= x.Imm && x.Imm <= l.last && x.Imm%l.step == 0
}

// someImms: numbers that a form may have: 0, its edges, each of its bits alone, and some others.
func someImms(l layout) []int64 {
	list := []int64{0, l.least, l.last}
	for _, n := range []int64{1, -1, 2, -2, 4, -4, 5, -8, 2048, 4096, -4096, 0x12345000} {
		list = append(list, n)
	}
	for i := range 31 {
		list = append(list, 1<<i, -1<<i, l.least+1<<i, l.last-1<<i)
	}
	var out []int64
	for _, n := range list {
		if l.least <= n && n <= l.last && n%l.step == 0 {
			out = append(out, n)
		}
	}
	return out
}

// someRight: instructions of an operation that are right: with the edges of each part, alone and together, and with others by chance.
func someRight(r row) []api.Instr {
	l := layouts[r.form]
	out := []api.Instr{{Op: r.op}}
	for _, n := range someImms(l) {
		out = append(out, api.Instr{Op: r.op, Imm: n})
	}
	for _, n := range []int{1, 2, 4, 5, 8, 10, 16, 21, 30, 31} {
		out = append(out, api.Instr{Op: r.op, Rd: n}, api.Instr{Op: r.op, Rs1: n}, api.Instr{Op: r.op, Rs2: n}, api.Instr{Op: r.op, Rd: n, Rs1: 31 - n, Rs2: n ^ 3, Imm: l.last})
	}
	for i := range 12 {
		out = append(out, api.Instr{Op: r.op, CSR: 1 << i}, api.Instr{Op: r.op, CSR: 4095 - 1<<i, Rd: 31})
	}
	out = append(out, api.Instr{Op: r.op, CSR: 4095}, api.Instr{Op: r.op, Aq: true}, api.Instr{Op: r.op, Rl: true}, api.Instr{Op: r.op, Aq: true, Rl: true})
	chance := rand.New(rand.NewSource(int64(r.op)))
	for range 200 {
		out = append(out, byChance(chance, r.op, l))
	}
	for i, x := range out {
		out[i] = cut(l, x)
	}
	return out
}

// byChance: an instruction with any parts, right but for those that its form doesn't have.
func byChance(chance *rand.Rand, op int, l layout) api.Instr {
	return api.Instr{
		Op: op, Rd: chance.Intn(32), Rs1: chance.Intn(32), Rs2: chance.Intn(32), CSR: chance.Intn(4096),
		Imm: l.least + l.step*chance.Int63n((l.last-l.least)/l.step+1),
		Aq:  chance.Intn(2) == 1, Rl: chance.Intn(2) == 1,
	}
}

// cut: an instruction without the parts that its form doesn't have.
func cut(l layout, x api.Instr) api.Instr {
	if !l.rd {
		x.Rd = 0
	}
	if !l.rs1 {
		x.Rs1 = 0
	}
	if !l.rs2 {
		x.Rs2 = 0
	}
	if !l.csr {
		x.CSR = 0
	}
	if !l.order {
		x.Aq, x.Rl = false, false
	}
	if len(l.imm) == 0 {
		x.Imm = 0
	}
	return x
}

// noOps: numbers of no operation.
func noOps() []int {
	return []int{0, -1, -2, api.LastOp + 1, api.LastOp + 2, -api.LastOp, 128, 255, 256, 256 + api.Lui, 1<<16 + api.Addi, 1<<32 + api.Lui, math.MinInt, math.MinInt + api.Lui, math.MaxInt}
}
