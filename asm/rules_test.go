package asm

import (
	"math"
	"math/rand"
	"slices"
	"strings"
	"testing"

	"vireo/api"
)

// P1: every call ends and none panics, whatever it is given.
func TestEveryArgument(t *testing.T) {
	wild := []int{math.MinInt, math.MinInt + 1, -1, 0, 1, 31, 32, 63, 64, 4095, 4096, 1 << 32, math.MaxInt}
	for _, n := range wild {
		Reg(n)
		for op := -2; op < api.LastOp+3; op++ {
			for _, x := range []api.Instr{{Op: op, Rd: n}, {Op: op, Rs1: n}, {Op: op, Rs2: n}, {Op: op, CSR: n}, {Op: op, Imm: int64(n)}, {Op: n, Rd: op}, {Op: op, Rd: n, Rs1: n, Rs2: n, CSR: n, Imm: int64(n), Aq: true, Rl: true}} {
				if s := Print(x); s != "" {
					printed(t, x, s)
				}
			}
		}
	}
	chance := rand.New(rand.NewSource(7))
	for range 20000 {
		raw := make([]byte, chance.Intn(24))
		for i := range raw {
			raw[i] = byte(chance.Intn(256))
		}
		s := string(raw)
		refused(t, s)
		refused(t, "addi "+s)
		refused(t, "lw x1,"+s)
		refused(t, "ecall "+s+"!")
		Program(s, s)
	}
}

// P1: long texts, which are read in one go.
func TestLongTexts(t *testing.T) {
	const n = 1 << 20
	for _, piece := range []string{",", "(", ")", "()", "x", "x1", "x1,", "x1 ", "0", "-", "a", ".aq", "é", "\x00", "8(", "addi "} {
		long := strings.Repeat(piece, n)
		for _, s := range []string{long, "addi " + long, "addi x1," + long, "lw x1,8(x2)" + long, "ecall " + long, "addi" + long + " x1,x2,3"} {
			refused(t, s)
		}
	}
	blank := strings.Repeat(" \t", n)
	refused(t, blank)
	read(t, blank+"lw"+blank+"x1"+blank+","+blank+strings.Repeat("0", n)+"8"+blank+"("+blank+"x2"+blank+")"+blank, api.Instr{Op: api.Lw, Rd: 1, Rs1: 2, Imm: 8})
	read(t, blank+"mret"+blank, api.Instr{Op: api.Mret})
	if got, e, at := Program(blank, blank, "ecall", blank); e != api.OK || at != 0 || !slices.Equal(got, []uint32{0x73}) {
		t.Errorf("Program with long blanks: %08x, %d, %d", got, e, at)
	}
}

// P2, rule 4: lists that are handed in stay as they are, with their spare room.
func TestListsStay(t *testing.T) {
	lines := []string{" ecall ", "", "add x1,x2,x3", "nop", "mret"}
	kept := slices.Clone(lines)
	Program(lines[:3]...)
	Program(lines...)
	if !slices.Equal(lines, kept) {
		t.Errorf("Program changed its lines: %q", lines)
	}
	words := []uint32{0x73, 0, 0x00100093, 5, 6}
	Bytes(words[:3]...)
	List(words[:3]...)
	Bytes(words...)
	List(words...)
	if !slices.Equal(words, []uint32{0x73, 0, 0x00100093, 5, 6}) {
		t.Errorf("Bytes or List changed its words: %08x", words)
	}
}

// P2, rule 4: answers share nothing with one another, and hang on the arguments alone, whatever was asked ahead, refused or not.
func TestAnswersAreNew(t *testing.T) {
	lines := []string{"ecall", "addi x1,x0,1", "lw x10,12(x2)"}
	words := []uint32{0x00000073, 0x00100093, 0x00c12503}
	raw := []byte{0x73, 0, 0, 0, 0x93, 0, 0x10, 0, 0x03, 0x25, 0xc1, 0}
	for range 3 {
		w, _, _ := Program(lines...)
		b := Bytes(words...)
		l := List(words...)
		if !slices.Equal(w, words) || !slices.Equal(b, raw) || !slices.Equal(l, lines) {
			t.Errorf("%08x, % x, %q", w, b, l)
		}
		for i := range cap(w) {
			w[:cap(w)][i] = 0x55
		}
		for i := range cap(b) {
			b[:cap(b)][i] = 0x55
		}
		for i := range cap(l) {
			l[:cap(l)][i] = "none"
		}
		Program("ecall", "nop")
		refused(t, "addi x1,x2")
	}
	if !slices.Equal(words, []uint32{0x00000073, 0x00100093, 0x00c12503}) || lines[0] != "ecall" {
		t.Errorf("an answer shares memory with an argument: %08x, %q", words, lines)
	}
}
