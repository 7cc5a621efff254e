package word

import (
	"math"
	"math/bits"
	"strconv"
	"strings"
)

const (
	hexMark = "0x"
	noDigit = 16 // not below any base that is read
)

// Hex: a word's digits in the base of 16, with 0x ahead, as few as may be.
func Hex(w uint64) string { return hexMark + strconv.FormatUint(w, 16) }

// Dec: a number's decimal digits, with - ahead below 0.
func Dec(n int64) string { return strconv.FormatInt(n, 10) }

// Parse: the word that a text writes: decimal digits, or 0x and digits from 0 to f; false: none of 64 bits.
func Parse(s string) (uint64, bool) {
	if digits, is := strings.CutPrefix(s, hexMark); is {
		return parseDigits(digits, 16)
	}
	return parseDigits(s, 10)
}

// ParseInt: the number that a text writes, perhaps with - ahead; false: none from -2^63 to 2^63 - 1.
func ParseInt(s string) (int64, bool) {
	digits, below := strings.CutPrefix(s, "-")
	w, ok := Parse(digits)
	most := uint64(math.MaxInt64)
	if below {
		most++
	}
	if !ok || w > most {
		return 0, false
	}
	if below {
		w = -w
	}
	return int64(w), true
}

// parseDigits stands here in place of strconv.ParseUint, which takes great letters, too.
func parseDigits(s string, base uint64) (uint64, bool) {
	w := uint64(0)
	for i := range len(s) {
		d := digit(s[i])
		over, product := bits.Mul64(w, base)
		sum, carry := bits.Add64(product, d, 0)
		if d >= base || over != 0 || carry != 0 {
			return 0, false
		}
		w = sum
	}
	return w, s != ""
}

func digit(c byte) uint64 {
	switch {
	case '0' <= c && c <= '9':
		return uint64(c - '0')
	case 'a' <= c && c <= 'f':
		return uint64(c-'a') + 10
	}
	return noDigit
}
