package image

import (
	"bytes"
	"fmt"
	"math/big"
	"slices"
	"strings"
	"testing"

	"vireo/asm"
)

// P25.4: the chapter's example, and other programs: one part at the beginning of memory.
func TestAssemble(t *testing.T) {
	for _, c := range []struct {
		lines []string
		want  string
	}{
		{nil, ""},
		{[]string{""}, ""},
		{[]string{" \t", "", "\t"}, ""},
		{[]string{"ecall"}, "\x73\x00\x00\x00"},
		{[]string{"addi x1,x0,1", "ecall"}, "\x93\x00\x10\x00\x73\x00\x00\x00"},
		{[]string{"", "addi x1,x0,5", " ", " amoadd.w.aq x1 , x2 , (x3)", ""}, "\x93\x00\x50\x00\xaf\xa0\x21\x04"},
		{slices.Repeat([]string{"ebreak"}, 5000), strings.Repeat("\x73\x00\x10\x00", 5000)},
	} {
		p, e, n := Assemble(c.lines...)
		want := Program{base, []Part{{base, []byte(c.want), uint64(len(c.want))}}}
		if e != 0 || n != 0 || !alike(p, want) {
			t.Errorf("%.100q: %.200v, %d, %d", c.lines, p, e, n)
		}
		lays(t, fmt.Sprintf("%.100q", c.lines), p, 1<<28, []byte(c.want), 0)
	}
}

// P25.4: the error and the number are asm.Program's; rule 2: there is nothing beside them.
func TestAssembleOfNone(t *testing.T) {
	for _, c := range []struct {
		lines []string
		n     int
	}{
		{[]string{"what"}, 0},
		{[]string{"ecall", "addi x1,x2"}, 1},
		{[]string{"", "ecall", "", "addi x1,x2", "what"}, 3},
		{append(slices.Repeat([]string{"ecall"}, 999), "addi x32,x0,0", "ecall"), 999},
		{[]string{"loop: ecall", "ecall"}, 0},
		{[]string{"ecall", "ecall # what for"}, 1},
		{[]string{"ecall", "\r"}, 1},
	} {
		p, e, n := Assemble(c.lines...)
		if e != 40 || n != c.n || p.Entry != 0 || len(p.Parts) != 0 {
			t.Errorf("%.100q: %.100v, %d, %d", c.lines, p, e, n)
		}
		if _, f, m := asm.Program(c.lines...); f != e || m != n {
			t.Errorf("%.100q: asm.Program has %d, %d", c.lines, f, m)
		}
	}
}

// P25.4: sums of words, with what is missing 0.
func TestSum(t *testing.T) {
	for _, c := range []struct {
		text string
		want uint64
	}{
		{"", 0},
		{"\x01", 1},
		{"\xff", 255},
		{"\x00\x01", 256},
		{"\x07\x06\x05\x04\x03\x02\x01", 0x01020304050607},
		{"\x08\x07\x06\x05\x04\x03\x02\x01", 0x0102030405060708},
		{"\x08\x07\x06\x05\x04\x03\x02\x01\x05", 0x010203040506070d},
		{"\xff\xff\xff\xff\xff\xff\xff\xff", ones},
		{"\xff\xff\xff\xff\xff\xff\xff\xff\x01", 0},
		{"\xff\xff\xff\xff\xff\xff\xff\xff\x03", 2},
		{"\x00\x00\x00\x00\x00\x00\x00\x80\x01\x00\x00\x00\x00\x00\x00\x80", 1},
		{"\x00\x00\x00\x00\x00\x00\x00\x00\x00\x00\x00\x00\x00\x00\x00\x09", 9 << 56},
		{strings.Repeat("\xff", 24), ones - 2},
		{strings.Repeat("\xff", 25), 252},
	} {
		if got := Sum([]byte(c.text)); got != c.want {
			t.Errorf("%.30x: %#x, not %#x", c.text, got, c.want)
		}
	}
}

// P25.4: of each length, as one number as great as one likes.
func TestSumOfLengths(t *testing.T) {
	two64 := new(big.Int).Lsh(big.NewInt(1), 64)
	for n := range 600 {
		list := pattern(n, n)
		sum := new(big.Int)
		for i, b := range list {
			sum.Add(sum, new(big.Int).Lsh(big.NewInt(int64(b)), uint(8*(i%8))))
		}
		if got := Sum(list); got != sum.Mod(sum, two64).Uint64() {
			t.Errorf("%d bytes: %#x, not %#x", n, got, sum)
		}
		// Rule 4: what lies behind the end doesn't count.
		if room := append(bytes.Clone(list), pattern(9, 9)...); Sum(room[:n]) != Sum(list) {
			t.Errorf("%d bytes: what lies behind them counts", n)
		}
	}
	if got := Sum(slices.Repeat([]byte{0xff}, 1<<20)); got != ones-(1<<17)+1 {
		t.Errorf("2^20 bytes: %#x", got)
	}
}
