package core

import (
	"vireo/alu"
	"vireo/api"
	"vireo/inst"
	"vireo/mul"
	"vireo/word"
)

// do: an instruction, whose word is w, is done; true: it is this trap in place of that.
func (h *Hart) do(x api.Instr, w uint32) (api.Trap, bool) {
	switch {
	case inst.Loads(x.Op):
		return h.load(x)
	case inst.Stores(x.Op):
		return h.store(x)
	case inst.Atomics(x.Op):
		return h.atomic(x)
	case inst.Branches(x.Op):
		return h.branch(x)
	case inst.Systems(x.Op):
		return h.system(x, w)
	}
	switch x.Op {
	case api.Lui:
		return h.goOn(x.Rd, uint64(x.Imm))
	case api.Auipc:
		return h.goOn(x.Rd, h.PC+uint64(x.Imm))
	case api.Jal:
		return h.jump(x.Rd, h.PC+uint64(x.Imm))
	case api.Jalr:
		return h.jump(x.Rd, h.beside(x)&^1)
	case api.Fence, api.FenceI:
		return h.goOn(0, 0)
	case api.Ecall, api.Ebreak, api.Mret, api.Sret, api.Wfi, api.SfenceVma:
		return h.alone(x.Op, w)
	}
	return h.goOn(x.Rd, h.reckon(x))
}

// reckon: what an instruction makes of two words.
func (h *Hart) reckon(x api.Instr) uint64 {
	a, b := h.X[x.Rs1], h.X[x.Rs2]
	if numbered(x.Op) {
		b = uint64(x.Imm)
	}
	if w, ok := alu.Do(x.Op, a, b); ok {
		return w
	}
	w, _ := mul.Do(x.Op, a, b)
	return w
}

// numbered: does it reckon with a number in place of its second register?
func numbered(op int) bool {
	return api.Addi <= op && op <= api.Srai || api.Addiw <= op && op <= api.Sraiw
}

// branch: the hart goes elsewhere, or on.
func (h *Hart) branch(x api.Instr) (api.Trap, bool) {
	if alu.Taken(x.Op, h.X[x.Rs1], h.X[x.Rs2]) {
		return h.jump(0, h.PC+uint64(x.Imm))
	}
	return h.goOn(0, 0)
}

// jump: the hart goes elsewhere, and a register gets where it would have gone on.
func (h *Hart) jump(rd int, to uint64) (api.Trap, bool) {
	if !word.Aligned(to, instrSize) {
		return trapped(api.FetchAlign, to)
	}
	h.set(rd, h.PC+instrSize)
	h.PC = to
	return api.Trap{}, false
}

// goOn: a register gets a word, and the hart goes on behind the instruction.
func (h *Hart) goOn(rd int, w uint64) (api.Trap, bool) {
	h.set(rd, w)
	h.PC += instrSize
	return api.Trap{}, false
}

// set: a register, but never the first one.
func (h *Hart) set(rd int, w uint64) {
	if rd != 0 {
		h.X[rd] = w
	}
}

// beside: the sum of the first register and the number.
func (h *Hart) beside(x api.Instr) uint64 { return h.X[x.Rs1] + uint64(x.Imm) }
