package plic

import (
	"vireo/api"
	"vireo/word"
)

// wide: how many bytes each register has.
const wide = 4

// levelBits: how many bits of a word a priority has.
const levelBits = 3

// register is what a place holds.
type register int

const (
	atNothing register = iota
	atPriority
	atWaiting
	atEnable
	atThreshold
	atClaim
)

// Load: what four bytes at a place hold; false: there may be no such access.
func (p *Plic) Load(at uint64, n int) (uint64, bool) {
	if !allowed(at, n) {
		return 0, false
	}
	switch r, i := find(at); r {
	case atPriority:
		return uint64(p.Prio[i]), true
	case atWaiting:
		return uint64(p.Waits), true
	case atEnable:
		return uint64(p.Lets[i]), true
	case atThreshold:
		return uint64(p.Least[i]), true
	case atClaim:
		return uint64(p.Take(i)), true
	}
	return 0, true
}

// Store: four bytes at a place; false: there may be no such access.
func (p *Plic) Store(at uint64, n int, w uint64) bool {
	if !allowed(at, n) {
		return false
	}
	switch r, i := find(at); r {
	case atPriority:
		if isSource(i) {
			p.Prio[i] = level(w)
		}
	case atEnable:
		p.Lets[i] = uint32(w) & sources
	case atThreshold:
		p.Least[i] = level(w)
	case atClaim:
		if low := uint32(w); low < api.Sources {
			p.Done(i, int(low))
		}
	}
	return true
}

// allowed: may there be an access of n bytes at a place?
func allowed(at uint64, n int) bool {
	return n == wide && word.Aligned(at, wide) && at < api.PlicSize
}

// find: which register lies at a place, and of which source or context.
func find(at uint64) (register, int) {
	if at < Priority+wide*api.Sources {
		return atPriority, int((at - Priority) / wide)
	}
	if at == Waiting {
		return atWaiting, 0
	}
	for c := range Contexts {
		switch at {
		case Enable + EnableBy*uint64(c):
			return atEnable, c
		case Threshold + ContextBy*uint64(c):
			return atThreshold, c
		case Claim + ContextBy*uint64(c):
			return atClaim, c
		}
	}
	return atNothing, 0
}

// level: the priority that a word tells.
func level(w uint64) uint32 { return uint32(word.Get(w, 0, levelBits)) }
