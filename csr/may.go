package csr

import (
	"vireo/api"
	"vireo/word"
)

// What a register's number tells beside which it is: who may use it, and whether it is only read.
const (
	modeAt   = 8
	accessAt = 10
	onlyRead = 3
)

// May: may a program, as it runs now, read a register, or write it, too?
func (f *File) May(n int, write bool) bool {
	if !Known(n) {
		return false
	}
	number := uint64(n)
	return !word.Any(
		write && word.Get(number, accessAt, 2) == onlyRead,
		f.Mode < api.Mode(word.Get(number, modeAt, modeBits)),
		n == Satp && f.Mode == api.Supervisor && f.Is(BitTVM),
		Cycle <= n && n <= Instret && f.hides(n%4),
	)
}

// hides: is a counter kept from the program that runs, by one of the modes above its own?
func (f *File) hides(counter int) bool {
	return f.Mode < api.Machine && !word.Bit(f.Mcounteren, counter) ||
		f.Mode == api.User && !word.Bit(f.Scounteren, counter)
}
