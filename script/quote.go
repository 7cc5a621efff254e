package script

import "vireo/word"

// The signs that quoted texts are made of, and the digits of the bytes that have none of their own.
const (
	mark    = '"'
	stroke  = '\\'
	lineEnd = '\n'
	first   = ' '
	last    = '~'
	digits  = "0123456789abcdef"
)

// Quote: bytes between quotation marks.
func Quote(data []byte) string {
	out := make([]byte, 0, len(data)+2)
	out = append(out, mark)
	for _, c := range data {
		out = appendSigns(out, c)
	}
	return string(append(out, mark))
}

// Unquote: the bytes that a text between quotation marks is; false: it is none.
func Unquote(s string) ([]byte, bool) {
	if len(s) < 2 || s[0] != mark || s[len(s)-1] != mark {
		return nil, false
	}
	s = s[1 : len(s)-1]
	out := make([]byte, 0, len(s))
	for s != "" {
		c, n := readSigns(s)
		if n == 0 {
			return nil, false
		}
		out = append(out, c)
		s = s[n:]
	}
	return out, true
}

// appendSigns: those of a byte, behind others.
func appendSigns(out []byte, c byte) []byte {
	switch {
	case c == lineEnd:
		return append(out, stroke, 'n')
	case c == mark || c == stroke:
		return append(out, stroke, c)
	case isBare(c):
		return append(out, c)
	}
	return append(out, stroke, 'x', digits[c>>4], digits[c&15])
}

// readSigns: the byte at the beginning of a text that isn't empty, and how many signs it has; 0: there is none.
func readSigns(s string) (byte, int) {
	switch {
	case isBare(s[0]):
		return s[0], 1
	case s[0] != stroke || len(s) < 2:
		return 0, 0
	case s[1] == mark || s[1] == stroke:
		return s[1], 2
	case s[1] == 'n':
		return lineEnd, 2
	case s[1] == 'x' && len(s) >= 4:
		return readDigits(s[2:4])
	}
	return 0, 0
}

// readDigits: of two the byte, and 4, the signs that it has with a stroke and an x ahead.
func readDigits(two string) (byte, int) {
	w, ok := word.Parse("0x" + two)
	if !ok {
		return 0, 0
	}
	return byte(w), 4
}

// isBare: does a byte stand as itself?
func isBare(c byte) bool { return first <= c && c <= last && c != mark && c != stroke }
