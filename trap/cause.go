package trap

import (
	"vireo/api"
	"vireo/csr"
)

// MayWait: may a program wait for an interrupt?
func MayWait(f *csr.File) bool { return f.Mode == api.Machine || !f.Is(csr.BitTW) }

// MayFence: may a program make the tables' changes known?
func MayFence(f *csr.File) bool {
	return f.Mode == api.Machine || f.Mode == api.Supervisor && !f.Is(csr.BitTVM)
}

// Call: the cause of a call, as the program runs now.
func Call(f *csr.File) int {
	switch f.Mode {
	case api.User:
		return api.CallUser
	case api.Supervisor:
		return api.CallSuper
	}
	return api.CallMachine
}

// Fault: the cause of an access that may not be: as one beyond memory, or (page) by the tables.
func Fault(kind int, page bool) int {
	if page {
		return byKind(kind, api.FetchPage, api.LoadPage, api.StorePage)
	}
	return byKind(kind, api.FetchAccess, api.LoadAccess, api.StoreAccess)
}

// Crooked: the cause of an access at an address that isn't divided by its width.
func Crooked(kind int) int {
	return byKind(kind, api.FetchAlign, api.LoadAlign, api.StoreAlign)
}

// byKind: one of three causes; what is neither fetched nor loaded counts as stored.
func byKind(kind, fetch, load, store int) int {
	switch kind {
	case api.Fetch:
		return fetch
	case api.Load:
		return load
	}
	return store
}
