package csr

import (
	"vireo/api"
	"vireo/word"
)

// What registers tell beside what is kept.
const (
	fixedStatus = 0xa00000000
	fixedSuper  = 0x200000000 // of it, what sstatus shows
	isa         = 0x8000000000141101
)

// The bits that registers have, of what may be written.
const (
	statusBits  = 0x7e19aa
	superBits   = 0xc0122 // of Status, those that sstatus has
	causeBits   = 0xb3ff  // the exceptions that may be delegated
	softBits    = 0x222   // the interrupts that may be delegated, which programs may set, too
	enableBits  = 0xaaa
	counterBits = 7
	alignBits   = 3 // those that no instruction's address has
)

const noMode = 2 // the number of two bits that is no mode's

// How satp tells which tables there are.
const (
	tablesAt   = 60
	tablesBits = 4
	noTables   = 0
	sv39Tables = 8
)

// Read: what a register holds; 0 of what is none.
func (f *File) Read(n int) uint64 {
	switch n {
	case Mstatus:
		return f.Status | fixedStatus
	case Sstatus:
		return f.Status&superBits | fixedSuper
	case Misa:
		return isa
	case Medeleg:
		return f.Medeleg
	case Mideleg:
		return f.Mideleg
	case Mie:
		return f.Mie
	case Sie:
		return f.Mie & f.Mideleg
	case Mip:
		return f.Pending()
	case Sip:
		return f.Pending() & f.Mideleg
	case Mtvec:
		return f.Mtvec
	case Stvec:
		return f.Stvec
	case Mcounteren:
		return f.Mcounteren
	case Scounteren:
		return f.Scounteren
	case Mscratch:
		return f.Mscratch
	case Sscratch:
		return f.Sscratch
	case Mcause:
		return f.Mcause
	case Scause:
		return f.Scause
	case Mtval:
		return f.Mtval
	case Stval:
		return f.Stval
	case Mepc:
		return f.Mepc
	case Sepc:
		return f.Sepc
	case Satp:
		return f.Satp
	case Mcycle, Cycle:
		return f.Cycle
	case Minstret, Instret:
		return f.Instret
	case Time:
		return f.Time
	}
	return 0
}

// Raw: what stands for a register where some of its bits are set or cleared: without what devices hold up of the bits that programs may set.
func (f *File) Raw(n int) uint64 {
	// No register but mip and sip tells of Lines, so all may be read so.
	own := *f
	own.Lines &^= softBits
	return own.Read(n)
}

// Write: a register; what may not be isn't taken. Nothing is done of what is none, or is only read.
func (f *File) Write(n int, w uint64) {
	switch n {
	case Mstatus:
		f.Status = taken(f.Status, w, statusMask(w))
	case Sstatus:
		f.Status = taken(f.Status, w, superBits)
	case Medeleg:
		f.Medeleg = w & causeBits
	case Mideleg:
		f.Mideleg = w & softBits
	case Mie:
		f.Mie = w & enableBits
	case Sie:
		f.Mie = taken(f.Mie, w, f.Mideleg)
	case Mip:
		f.Soft = w & softBits
	case Sip:
		f.Soft = taken(f.Soft, w, f.Mideleg&word.Bits(api.SoftSuper))
	case Mtvec:
		f.Mtvec = vector(f.Mtvec, w)
	case Stvec:
		f.Stvec = vector(f.Stvec, w)
	case Mcounteren:
		f.Mcounteren = w & counterBits
	case Scounteren:
		f.Scounteren = w & counterBits
	case Mscratch:
		f.Mscratch = w
	case Sscratch:
		f.Sscratch = w
	case Mcause:
		f.Mcause = w
	case Scause:
		f.Scause = w
	case Mtval:
		f.Mtval = w
	case Stval:
		f.Stval = w
	case Mepc:
		f.Mepc = w &^ alignBits
	case Sepc:
		f.Sepc = w &^ alignBits
	case Satp:
		f.Satp = tables(f.Satp, w)
	case Mcycle:
		f.Cycle = w
	case Minstret:
		f.Instret = w
	}
}

// taken: a word whose bits of mask are another's.
func taken(old, w, mask uint64) uint64 { return old&^mask | w&mask }

// statusMask: the bits that mstatus takes of a word; those of the mode that it keeps only if they tell one.
func statusMask(w uint64) uint64 {
	if word.Get(w, BitMPP, modeBits) == noMode {
		return word.Put(statusBits, BitMPP, modeBits, 0)
	}
	return statusBits
}

// vector: what is kept of a vector when a word is written; of the ways to go to it there are but two.
func vector(old, w uint64) uint64 {
	if word.Bit(w, 1) {
		return old
	}
	return w
}

// tables: what is kept of satp when a word is written.
func tables(old, w uint64) uint64 {
	switch word.Get(w, tablesAt, tablesBits) {
	case noTables, sv39Tables:
		return w
	}
	return old
}
