// Package word is layer 1: words of 64 bits, their parts and their bytes. See shared/doc/01-word.md.
package word

import "math/bits"

const (
	wordBits  = 64
	wordBytes = 8
	maxBytes  = 4096 // the most that Bytes tells
)

// Mask: the word whose n lowest bits are 1.
func Mask(n int) uint64 {
	if n < 1 {
		return 0
	}
	// A shift by 64 or more leaves 0, and 1 less than that is all bits.
	return uint64(1)<<n - 1
}

// Get: n bits of a word from the bit at on; those that it doesn't have are 0.
func Get(w uint64, at, n int) uint64 {
	if !isPlace(at) {
		return 0
	}
	return w >> at & Mask(n)
}

// Put: a word with the lowest bits of v in the place of n of its own, from the bit at on.
func Put(w uint64, at, n int, v uint64) uint64 {
	if !isPlace(at) {
		return w
	}
	hole := Mask(n) << at
	return w&^hole | v<<at&hole
}

// Bit: is a bit 1? One that the word doesn't have isn't.
func Bit(w uint64, n int) bool { return Get(w, n, 1) == 1 }

// Bits: the word in which just these bits are 1; numbers of no bit don't count.
func Bits(list ...int) uint64 {
	w := uint64(0)
	for _, n := range list {
		w = Put(w, n, 1, 1)
	}
	return w
}

// Lowest: the number of the lowest bit that is 1; -1 of 0.
func Lowest(w uint64) int {
	if w == 0 {
		return -1
	}
	return bits.TrailingZeros64(w)
}

// Any: is one of some true?
func Any(list ...bool) bool {
	for _, is := range list {
		if is {
			return true
		}
	}
	return false
}

// Sext: the n lowest bits of a word, and above them all the highest of these.
func Sext(w uint64, n int) uint64 {
	if n < 1 {
		return 0
	}
	if n >= wordBits {
		return w
	}
	above := wordBits - n
	return uint64(int64(w<<above) >> above)
}

// Sext32: the low 32 bits, as a number with its sign.
func Sext32(w uint64) uint64 { return Sext(w, 32) }

// Of: the word of bytes, the lowest first; those behind the eighth don't count.
func Of(bytes ...byte) uint64 {
	w := uint64(0)
	for i := range min(len(bytes), wordBytes) {
		w |= uint64(bytes[i]) << (8 * i)
	}
	return w
}

// Bytes: n bytes of a word, at most 4096, the lowest first; behind the eighth they are 0.
func Bytes(w uint64, n int) []byte {
	out := make([]byte, max(0, min(n, maxBytes)))
	for i := range min(len(out), wordBytes) {
		out[i] = byte(w >> (8 * i))
	}
	return out
}

// Aligned: is a word divided by another, 0 or a power of 2? By 0 each is.
func Aligned(w, by uint64) bool { return by == 0 || w%by == 0 }

// Within: do n numbers from at on lie among size numbers from base on?
func Within(at, n, base, size uint64) bool {
	if at < base {
		return false
	}
	// Differences, not sums: a sum might pass 2^64 and seem small.
	ahead := at - base
	return ahead <= size && n <= size-ahead
}

// Overlap: do n numbers from a on and m numbers from b on have one in common?
func Overlap(a, n, b, m uint64) bool {
	// If they have any, they have the greater beginning, which is never beyond 2^64.
	if a <= b {
		return b-a < n && m > 0
	}
	return a-b < m && n > 0
}

func isPlace(at int) bool { return 0 <= at && at < wordBits }
