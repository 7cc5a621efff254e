package asm

import (
	"strings"

	"vireo/api"
	"vireo/inst"
	"vireo/word"
)

// marks stand in shapes and in texts for themselves.
const marks = ",()"

const upperUnit = 4096 // what lui and auipc count by

// shapeOf: what stands behind an operation's name: d, a, b are the registers Rd, Rs1, Rs2, n is Imm, u is Imm by its unit, c is CSR. Texts are written and read by it alone, so that the two can't differ.
func shapeOf(op int) string {
	switch op {
	case api.Lui, api.Auipc:
		return "d,u"
	case api.Jal:
		return "d,n"
	case api.Csrrw, api.Csrrs, api.Csrrc:
		return "d,c,a"
	case api.Csrrwi, api.Csrrsi, api.Csrrci:
		return "d,c,n"
	case api.LrW, api.LrD:
		return "d,(a)"
	case api.SfenceVma:
		return "a,b"
	case api.Jalr, api.Addi, api.Slti, api.Sltiu, api.Xori, api.Ori, api.Andi, api.Slli, api.Srli, api.Srai,
		api.Addiw, api.Slliw, api.Srliw, api.Sraiw, api.Fence, api.FenceI:
		return "d,a,n"
	case api.Ecall, api.Ebreak, api.Mret, api.Sret, api.Wfi:
		return ""
	}
	switch {
	case inst.Loads(op):
		return "d,n(a)"
	case inst.Stores(op):
		return "b,n(a)"
	case inst.Branches(op):
		return "a,b,n"
	case inst.Atomics(op):
		return "d,b,(a)"
	}
	return "d,a,b"
}

// orderMark: what Aq and Rl put behind an instruction's name.
func orderMark(x api.Instr) string {
	switch {
	case x.Aq && x.Rl:
		return ".aqrl"
	case x.Aq:
		return ".aq"
	case x.Rl:
		return ".rl"
	}
	return ""
}

func writeParts(shape string, x api.Instr) string {
	var out strings.Builder
	for i := range len(shape) {
		out.WriteString(partText(shape[i], x))
	}
	return out.String()
}

func partText(part byte, x api.Instr) string {
	switch part {
	case 'd':
		return Reg(x.Rd)
	case 'a':
		return Reg(x.Rs1)
	case 'b':
		return Reg(x.Rs2)
	case 'n':
		return word.Dec(x.Imm)
	case 'u':
		return word.Dec(x.Imm / upperUnit)
	case 'c':
		return word.Hex(uint64(x.CSR))
	}
	return string(part)
}
