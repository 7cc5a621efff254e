package core

import (
	"vireo/alu"
	"vireo/amo"
	"vireo/api"
	"vireo/inst"
	"vireo/trap"
)

// load: a register gets what the bus tells.
func (h *Hart) load(x api.Instr) (api.Trap, bool) {
	va, n := h.beside(x), inst.Width(x.Op)
	at, cause, ok := h.access(api.Load, va, n)
	if !ok {
		return trapped(cause, va)
	}
	w, ok := h.Load(at, n)
	if !ok {
		return trapped(api.LoadAccess, va)
	}
	return h.goOn(x.Rd, alu.Extend(x.Op, w))
}

// store: the bus is given the second register.
func (h *Hart) store(x api.Instr) (api.Trap, bool) {
	va, n := h.beside(x), inst.Width(x.Op)
	at, cause, ok := h.access(api.Store, va, n)
	if !ok {
		return trapped(cause, va)
	}
	if !h.Store(at, n, h.X[x.Rs2]) {
		return trapped(api.StoreAccess, va)
	}
	h.breaks(at, n)
	return h.goOn(0, 0)
}

// atomic: what stands in memory is read and, mostly, written at once; devices have nothing of the kind.
func (h *Hart) atomic(x api.Instr) (api.Trap, bool) {
	va, n, kind := h.X[x.Rs1], inst.Width(x.Op), kindOf(x.Op)
	at, cause, ok := h.access(kind, va, n)
	if !ok {
		return trapped(cause, va)
	}
	old, ok := h.RAM.Load(at, n)
	if !ok {
		return trapped(trap.Fault(kind, false), va)
	}
	switch {
	case amo.Reserves(x.Op):
		h.Held = amo.Reserve(at, n)
	case amo.Conditional(x.Op):
		return h.conditional(x, at, n)
	default:
		w, _ := amo.New(x.Op, old, h.X[x.Rs2])
		h.RAM.Store(at, n, w)
		h.breaks(at, n)
	}
	return h.goOn(x.Rd, amo.Old(x.Op, old))
}

// conditional: a store by the reservation, which is used up; the register gets 1, if there was none.
func (h *Hart) conditional(x api.Instr, at uint64, n int) (api.Trap, bool) {
	failed := uint64(1)
	if h.Held.Holds(at, n) {
		h.RAM.Store(at, n, h.X[x.Rs2])
		failed = 0
	}
	h.Held = amo.Set{}
	return h.goOn(x.Rd, failed)
}

// breaks: a piece is written, which a reservation may not outlast.
func (h *Hart) breaks(at uint64, n int) { h.Held = h.Held.Broken(at, uint64(n)) }

// kindOf: how an atomic instruction goes to memory: only a reservation leaves it as it is.
func kindOf(op int) int {
	if amo.Reserves(op) {
		return api.Load
	}
	return api.Store
}
