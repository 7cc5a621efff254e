package core

import (
	"vireo/api"
	"vireo/trap"
)

// system: a system register is read, and perhaps written.
func (h *Hart) system(x api.Instr, w uint32) (api.Trap, bool) {
	v, writes := h.given(x)
	if !h.CSR.May(x.CSR, writes) {
		return illegal(w)
	}
	old, raw := h.CSR.Read(x.CSR), h.CSR.Raw(x.CSR)
	if writes {
		h.CSR.Write(x.CSR, mixed(x.Op, raw, v))
	}
	return h.goOn(x.Rd, old)
}

// given: the word that a system register is to take, and whether it is written at all.
func (h *Hart) given(x api.Instr) (uint64, bool) {
	switch x.Op {
	case api.Csrrw:
		return h.X[x.Rs1], true
	case api.Csrrwi:
		return uint64(x.Imm), true
	case api.Csrrs, api.Csrrc:
		// The register's number counts, not its word: whether it writes is seen by the instruction alone.
		return h.X[x.Rs1], x.Rs1 != 0
	}
	return uint64(x.Imm), x.Imm != 0
}

// mixed: what is written, of what stands there and a word: this, or its bits set, or cleared.
func mixed(op int, raw, v uint64) uint64 {
	switch op {
	case api.Csrrs, api.Csrrsi:
		return raw | v
	case api.Csrrc, api.Csrrci:
		return raw &^ v
	}
	return v
}

// alone: the instructions by which programs call for one another, come back, wait.
func (h *Hart) alone(op int, w uint32) (api.Trap, bool) {
	switch op {
	case api.Ecall:
		return trapped(trap.Call(&h.CSR), 0)
	case api.Ebreak:
		return trapped(api.Breakpoint, h.PC)
	case api.Mret:
		to, may := trap.Mret(&h.CSR)
		return h.back(to, may, w)
	case api.Sret:
		to, may := trap.Sret(&h.CSR)
		return h.back(to, may, w)
	case api.Wfi:
		return h.wait(w)
	}
	if !trap.MayFence(&h.CSR) {
		return illegal(w)
	}
	return h.goOn(0, 0)
}

// back: the hart goes on where a trap was entered, if it may.
func (h *Hart) back(to uint64, may bool, w uint32) (api.Trap, bool) {
	if !may {
		return illegal(w)
	}
	h.PC = to
	return api.Trap{}, false
}

// wait: from now on till an interrupt comes.
func (h *Hart) wait(w uint32) (api.Trap, bool) {
	if !trap.MayWait(&h.CSR) {
		return illegal(w)
	}
	h.Waits = true
	return h.goOn(0, 0)
}
