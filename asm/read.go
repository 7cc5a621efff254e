package asm

import (
	"strings"

	"vireo/api"
	"vireo/inst"
	"vireo/word"
)

// cutName: what stands ahead of the first blank of a text, and the rest.
func cutName(s string) (name, rest string) {
	at := strings.IndexAny(s, blanks)
	if at < 0 {
		return s, ""
	}
	return s[:at], s[at:]
}

// readName: an instruction's operation, Aq and Rl, by its name; whether it may have the two is left to inst.Right.
func readName(name string) (api.Instr, bool) {
	for _, x := range []api.Instr{{}, {Aq: true}, {Rl: true}, {Aq: true, Rl: true}} {
		plain, is := strings.CutSuffix(name, orderMark(x))
		if !is {
			continue
		}
		if x.Op = inst.Find(plain); x.Op != 0 {
			return x, true
		}
	}
	return api.Instr{}, false
}

// readParts: an instruction with the parts besides that a text, without blanks at its end, tells by a shape; false: it has another shape.
func readParts(shape, s string, x api.Instr) (api.Instr, bool) {
	for i := range len(shape) {
		s = strings.TrimLeft(s, blanks)
		piece := firstPiece(s)
		s = s[len(piece):]
		is := false
		if x, is = readPart(shape[i], piece, x); !is {
			return api.Instr{}, false
		}
	}
	return x, s == ""
}

// firstPiece: of a text without blanks ahead the mark that it begins with, or what stands ahead of the next mark or blank.
func firstPiece(s string) string {
	at := strings.IndexAny(s, marks+blanks)
	switch at {
	case -1:
		return s
	case 0:
		return s[:1]
	}
	return s[:at]
}

// readPart: an instruction with one part more; which values it may have is left to inst.Right.
func readPart(part byte, piece string, x api.Instr) (api.Instr, bool) {
	is := false
	switch part {
	case 'd':
		x.Rd, is = readReg(piece)
	case 'a':
		x.Rs1, is = readReg(piece)
	case 'b':
		x.Rs2, is = readReg(piece)
	case 'n':
		x.Imm, is = word.ParseInt(piece)
	case 'u':
		x.Imm, is = readUpper(piece)
	case 'c':
		x.CSR, is = readCSR(piece)
	default:
		is = piece == string(part)
	}
	return x, is
}

func readReg(s string) (int, bool) {
	n, is := word.ParseInt(strings.TrimPrefix(s, "x"))
	// A register has one name alone, but its number can be written in many ways.
	return int(n), is && Reg(int(n)) == s
}

func readUpper(s string) (int64, bool) {
	n, is := word.ParseInt(s)
	imm := n * upperUnit
	// A product beyond 64 bits might seem small.
	return imm, is && imm/upperUnit == n
}

func readCSR(s string) (int, bool) {
	n, is := word.ParseInt(s)
	// Where an int has 32 bits, a great number might seem small.
	return int(n), is && int64(int(n)) == n
}
