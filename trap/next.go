package trap

import (
	"vireo/api"
	"vireo/csr"
	"vireo/word"
)

// Next: the interrupt that is to be taken now; false: none is.
func Next(f *csr.File) (api.Trap, bool) {
	ready := f.Pending() & f.Mie
	if f.Mode < api.Machine || f.Is(csr.BitMIE) {
		if t, ok := first(ready &^ f.Mideleg); ok {
			return t, true
		}
	}
	if f.Mode == api.User || f.Mode == api.Supervisor && f.Is(csr.BitSIE) {
		return first(ready & f.Mideleg)
	}
	return api.Trap{}, false
}

// first: of these interrupts the one that is taken ahead of the others; false: there is none.
func first(ready uint64) (api.Trap, bool) {
	for _, cause := range [...]int{api.OuterMachine, api.SoftMachine, api.TimerMachine, api.OuterSuper, api.SoftSuper, api.TimerSuper} {
		if word.Bit(ready, cause) {
			return api.Trap{Cause: cause, Interrupt: true}, true
		}
	}
	return api.Trap{}, false
}
