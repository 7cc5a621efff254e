package amo

import "vireo/word"

// Set is a reservation: of which piece; none, if Len is 0.
type Set struct {
	At  uint64
	Len uint64
}

// Reserve: one of a piece. No piece has a length below 0, so there is none then.
func Reserve(at uint64, n int) Set {
	if n < 0 {
		return Set{}
	}
	return Set{At: at, Len: uint64(n)}
}

// Holds: may a piece be stored to by it?
func (s Set) Holds(at uint64, n int) bool {
	// A length below 0 would be a great one as a word.
	return n > 0 && s == Reserve(at, n)
}

// Broken: what is left of it, when something is written.
func (s Set) Broken(at, n uint64) Set {
	if word.Overlap(s.At, s.Len, at, n) {
		return Set{}
	}
	return s
}
