package vmmio

import (
	"vireo/api"
	"vireo/word"
)

// What every device tells.
const (
	magic   = 0x74726976 // the letters virt, the first one lowest
	version = 2
	vendor  = 0x6f657276 // vreo
)

const (
	regSize  = 4 // of a register below Config
	maxWidth = 8 // the most bytes of an access from Config on
	halfBits = 32
)

// Load: what n bytes at a place hold; false: there may be no such access.
func (r *Regs) Load(at uint64, n int) (uint64, bool) {
	if r == nil || !allowed(at, n) {
		return 0, false
	}
	if at >= Config {
		return r.told(at-Config, uint64(n)), true
	}
	return uint64(r.read(at)), true
}

// read: what a register holds.
func (r *Regs) read(at uint64) uint32 {
	switch at {
	case Magic:
		return magic
	case Version:
		return version
	case DeviceID:
		return r.ID
	case VendorID:
		return vendor
	case DevFeatures:
		return half(r.Offered, r.DevSel)
	case QueueMax:
		if r.selected() != nil {
			return api.MaxQueue
		}
	case QueueReady:
		if q := r.selected(); q != nil && q.Ready {
			return 1
		}
	case IntStatus:
		return r.Pending
	case Status:
		return r.Bits
	case Generation:
		return r.Gen
	}
	return 0
}

// told: n bytes of what the device tells of itself; those behind its end are 0, as word.Of takes those that it isn't given.
func (r *Regs) told(from, n uint64) uint64 {
	size := uint64(len(r.Space))
	return word.Of(r.Space[min(from, size):min(from+n, size)]...)
}

// allowed: may there be an access of n bytes at a place?
func allowed(at uint64, n int) bool {
	if at < Config {
		return n == regSize && word.Aligned(at, regSize)
	}
	// The number of bytes comes first: one below 0 would be a great one as a word.
	return (n == 1 || n == 2 || n == 4 || n == maxWidth) &&
		word.Aligned(at-Config, uint64(n)) &&
		word.Within(at, uint64(n), Config, api.DevSize-Config)
}

// half: the low half of a word, number 0, or the high one, 1; 0 of other numbers.
func half(w uint64, n uint32) uint32 {
	if n > 1 {
		return 0
	}
	return uint32(word.Get(w, halfBits*int(n), halfBits))
}

// withHalf: a word with v for its half of a number; as it is for a number of none.
func withHalf(w uint64, n, v uint32) uint64 {
	if n > 1 {
		return w
	}
	return word.Put(w, halfBits*int(n), halfBits, uint64(v))
}
