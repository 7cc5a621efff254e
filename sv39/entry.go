package sv39

import (
	"vireo/api"
	"vireo/word"
)

// entry is a word of a table.
type entry uint64

const entryBytes = 8

// The bits of an entry.
const (
	bitV = 0
	bitR = 1
	bitW = 2
	bitX = 3
	bitU = 4
	bitA = 6
	bitD = 7
)

// Where an entry holds a page's number, of how many bits; those above it may not be used.
const (
	numberAt   = 10
	numberBits = 44
	unusedAt   = numberAt + numberBits
	unusedBits = 64 - unusedAt
)

func (e entry) is(bit int) bool { return word.Bit(uint64(e), bit) }

// number: of the page that it names.
func (e entry) number() uint64 { return word.Get(uint64(e), numberAt, numberBits) }

// leads: does it lead to memory, not to another table?
func (e entry) leads() bool { return e.is(bitR) || e.is(bitX) }

// odd: is it one that may not stand in a table?
func (e entry) odd() bool {
	return !e.is(bitV) ||
		word.Get(uint64(e), unusedAt, unusedBits) != 0 ||
		e.is(bitW) && !e.is(bitR) ||
		!e.leads() && word.Any(e.is(bitU), e.is(bitA), e.is(bitD))
}

// allowed: may an access be made by an entry that leads to memory?
func (w Way) allowed(e entry) bool {
	if !w.admitted(e.is(bitU)) || !e.is(bitA) {
		return false
	}
	switch w.Kind {
	case api.Fetch:
		return e.is(bitX)
	case api.Load:
		return e.is(bitR) || e.is(bitX) && w.Mxr
	}
	return e.is(bitW) && e.is(bitD)
}

// admitted: may the mode use a page at all that is a user's, or isn't?
func (w Way) admitted(user bool) bool {
	switch w.Mode {
	case api.User:
		return user
	case api.Supervisor:
		return !user || w.Kind != api.Fetch && w.Sum
	}
	return true
}

// Entry: of a table that leads to another one.
func Entry(page uint64) uint64 { return naming(page, bitV) }

// Leaf: of one that leads to memory, with all rights, used and written; for programs too, if so asked.
func Leaf(page uint64, user bool) uint64 {
	e := naming(page, bitV, bitR, bitW, bitX, bitA, bitD)
	if user {
		e |= word.Bits(bitU)
	}
	return e
}

// Satp: the register's word for a first table.
func Satp(page uint64) uint64 {
	return word.Put(numberOf(page), schemeAt, schemeBits, byTables)
}

// naming: an entry that names a page, with these bits.
func naming(page uint64, list ...int) uint64 {
	return word.Put(word.Bits(list...), numberAt, numberBits, numberOf(page))
}

// numberOf: the number of the page at an address.
func numberOf(page uint64) uint64 { return word.Get(page, inPageBits, numberBits) }
