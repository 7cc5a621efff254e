package inst

import (
	"vireo/api"
	"vireo/word"
)

// The parts that forms have beside Imm.
const (
	partRd = 1 << iota
	partRs1
	partRs2
	partCSR
	partOrder // Aq and Rl, which stand together
)

const (
	lastRegister = 31
	lastCSR      = 4095
)

var parts = [...]uint8{
	upper:   partRd,
	jump:    partRd,
	number:  partRd | partRs1,
	load:    partRd | partRs1,
	branch:  partRs1 | partRs2,
	store:   partRs1 | partRs2,
	shift:   partRd | partRs1,
	short:   partRd | partRs1,
	three:   partRd | partRs1 | partRs2,
	fence:   partRd | partRs1,
	alone:   0,
	system:  partRd | partRs1 | partCSR,
	systemi: partRd | partCSR,
	reserve: partRd | partRs1 | partOrder,
	atomic:  partRd | partRs1 | partRs2 | partOrder,
	two:     partRs1 | partRs2,
}

// fixed: of each form the bits that no part stands in. They tell the operation.
var fixed = [...]uint32{
	upper:   0x0000007f,
	jump:    0x0000007f,
	number:  0x0000707f,
	load:    0x0000707f,
	branch:  0x0000707f,
	store:   0x0000707f,
	shift:   0xfc00707f,
	short:   0xfe00707f,
	three:   0xfe00707f,
	fence:   0x0000707f,
	alone:   0xffffffff,
	system:  0x0000707f,
	systemi: 0x0000707f,
	reserve: 0xf9f0707f,
	atomic:  0xf800707f,
	two:     0xfe007fff,
}

// most: the greatest value of a part, which is last or, where the form doesn't have it, 0. As last is a row of bits that are 1, so is it.
func most(f form, part uint8, last int) int {
	if parts[f]&part == 0 {
		return 0
	}
	return last
}

// partsFit: are the parts beside Imm such as the form has, and 0 and false where it has none?
func partsFit(f form, x api.Instr) bool {
	return among(x.Rd, most(f, partRd, lastRegister)) &&
		among(x.Rs1, most(f, partRs1, lastRegister)) &&
		among(x.Rs2, most(f, partRs2, lastRegister)) &&
		among(x.CSR, most(f, partCSR, lastCSR)) &&
		(parts[f]&partOrder != 0 || !x.Aq && !x.Rl)
}

func among(n, last int) bool { return 0 <= n && n <= last }

// immFits: is it a number such as the form has?
func immFits(f form, imm int64) bool {
	least, last, step := span(f)
	return least <= imm && imm <= last && imm%step == 0
}

// span: the least and the greatest Imm of a form, and what divides it.
func span(f form) (least, last, step int64) {
	switch f {
	case upper:
		return -1 << 31, 1<<31 - 4096, 4096
	case jump:
		return -1 << 20, 1<<20 - 2, 2
	case number, load, store:
		return -2048, 2047, 1
	case branch:
		return -4096, 4094, 2
	case shift:
		return 0, 63, 1
	case short, systemi:
		return 0, 31, 1
	case fence:
		return 0, 4095, 1
	}
	return 0, 0, 1
}

// partsIn: the bits of a word in which the parts beside Imm stand. One that the form doesn't have is 0 and adds none.
func partsIn(x api.Instr) uint32 {
	w := uint32(x.Rd)<<7 | uint32(x.Rs1)<<15 | uint32(x.Rs2)<<20 | uint32(x.CSR)<<20
	if x.Aq {
		w |= 1 << 26
	}
	if x.Rl {
		w |= 1 << 25
	}
	return w
}

// partsOf: the parts beside Imm that stand in a word of a form.
func partsOf(f form, w uint32) api.Instr {
	ordered := parts[f]&partOrder != 0
	return api.Instr{
		Rd:  int(w>>7) & most(f, partRd, lastRegister),
		Rs1: int(w>>15) & most(f, partRs1, lastRegister),
		Rs2: int(w>>20) & most(f, partRs2, lastRegister),
		CSR: int(w>>20) & most(f, partCSR, lastCSR),
		Aq:  ordered && w>>26&1 == 1,
		Rl:  ordered && w>>25&1 == 1,
	}
}

// immIn: the bits of a word of a form in which an Imm stands.
func immIn(f form, imm int64) uint32 {
	w := uint64(imm)
	switch f {
	case upper:
		return uint32(w)
	case jump:
		return uint32(word.Get(w, 20, 1)<<31 | word.Get(w, 1, 10)<<21 | word.Get(w, 11, 1)<<20 | word.Get(w, 12, 8)<<12)
	case branch:
		return uint32(word.Get(w, 12, 1)<<31 | word.Get(w, 5, 6)<<25 | word.Get(w, 1, 4)<<8 | word.Get(w, 11, 1)<<7)
	case store:
		return uint32(word.Get(w, 5, 7)<<25 | word.Get(w, 0, 5)<<7)
	case systemi:
		return uint32(w << 15)
	}
	// All others that have one have it here, and what is above the word's bits is but its sign.
	return uint32(w << 20)
}

// immOf: the Imm that stands in a word of a form; 0, if the form has none.
func immOf(f form, in uint32) int64 {
	w := uint64(in)
	switch f {
	case upper:
		return int64(word.Sext32(w &^ 0xfff))
	case jump:
		return signed(word.Get(w, 31, 1)<<20|word.Get(w, 21, 10)<<1|word.Get(w, 20, 1)<<11|word.Get(w, 12, 8)<<12, 21)
	case number, load:
		return signed(word.Get(w, 20, 12), 12)
	case branch:
		return signed(word.Get(w, 31, 1)<<12|word.Get(w, 25, 6)<<5|word.Get(w, 8, 4)<<1|word.Get(w, 7, 1)<<11, 13)
	case store:
		return signed(word.Get(w, 25, 7)<<5|word.Get(w, 7, 5), 12)
	case shift:
		return int64(word.Get(w, 20, 6))
	case short:
		return int64(word.Get(w, 20, 5))
	case fence:
		return int64(word.Get(w, 20, 12))
	case systemi:
		return int64(word.Get(w, 15, 5))
	}
	return 0
}

func signed(w uint64, n int) int64 { return int64(word.Sext(w, n)) }
