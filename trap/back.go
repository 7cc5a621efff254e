package trap

import (
	"vireo/api"
	"vireo/csr"
)

// Mret: back from the machine's mode; false: it may not be.
func Mret(f *csr.File) (uint64, bool) {
	if f.Mode != api.Machine {
		return 0, false
	}
	f.Mode = f.Previous()
	f.Set(csr.BitMIE, f.Is(csr.BitMPIE))
	f.Set(csr.BitMPIE, true)
	f.Keep(api.User)
	if f.Mode != api.Machine {
		f.Set(csr.BitMPRV, false)
	}
	return f.Mepc, true
}

// Sret: back from the supervisor's mode; false: it may not be.
func Sret(f *csr.File) (uint64, bool) {
	if f.Mode == api.User || f.Mode == api.Supervisor && f.Is(csr.BitTSR) {
		return 0, false
	}
	f.Mode = supervisorIf(f.Is(csr.BitSPP))
	f.Set(csr.BitSIE, f.Is(csr.BitSPIE))
	f.Set(csr.BitSPIE, true)
	f.Set(csr.BitSPP, false)
	f.Set(csr.BitMPRV, false)
	return f.Sepc, true
}

// supervisorIf: the mode that one bit tells.
func supervisorIf(is bool) api.Mode {
	if is {
		return api.Supervisor
	}
	return api.User
}
