package core

import (
	"vireo/api"
	"vireo/inst"
	"vireo/sv39"
	"vireo/trap"
	"vireo/word"
)

// instrSize is how many bytes an instruction's word has.
const instrSize = 4

// access: where n bytes at an address are, for an access of a kind; false: it may not be, and this is the cause.
func (h *Hart) access(kind int, va uint64, n int) (uint64, int, bool) {
	if !word.Aligned(va, uint64(n)) {
		return 0, trap.Crooked(kind), false
	}
	r := sv39.Walk(h.RAM, sv39.Of(&h.CSR, kind), va)
	if r.Fault {
		return 0, trap.Fault(kind, r.Page), false
	}
	return r.Addr, 0, true
}

// fetchAndDo: the instruction at PC is done; true: it is this trap in place of that.
func (h *Hart) fetchAndDo() (api.Trap, bool) {
	at, cause, ok := h.access(api.Fetch, h.PC, instrSize)
	if !ok {
		return trapped(cause, h.PC)
	}
	w, ok := h.Fetch(at)
	if !ok {
		return trapped(api.FetchAccess, h.PC)
	}
	x, e := inst.Decode(w)
	if e != api.OK {
		return illegal(w)
	}
	return h.do(x, w)
}

// trapped: what an instruction answers that is a trap.
func trapped(cause int, value uint64) (api.Trap, bool) {
	return api.Trap{Cause: cause, Value: value}, true
}

// illegal: likewise, of a word that is no instruction, or may not be one now.
func illegal(w uint32) (api.Trap, bool) { return trapped(api.Illegal, uint64(w)) }
