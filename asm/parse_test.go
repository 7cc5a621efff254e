package asm

import (
	"math/rand"
	"strings"
	"testing"

	"vireo/api"
)

// refused: does Parse tell ErrText of a text, and nothing else?
func refused(t *testing.T, s string) {
	t.Helper()
	if x, e := Parse(s); e != api.ErrText || x != (api.Instr{}) {
		t.Errorf("Parse(%q): %+v, %d", s, x, e)
	}
}

// read: does Parse tell that instruction of a text?
func read(t *testing.T, s string, want api.Instr) {
	t.Helper()
	if x, e := Parse(s); e != api.OK || x != want {
		t.Errorf("Parse(%q): %+v, %d, not %+v", s, x, e, want)
	}
}

// P4.2

func TestBlanks(t *testing.T) {
	for _, c := range []struct {
		list []string
		want api.Instr
	}{
		{
			[]string{
				" lw x1,8(x2)", "lw x1,8(x2) ", "\tlw x1,8(x2)\t", " \t lw x1,8(x2) \t ", "lw  x1,8(x2)", "lw\tx1,8(x2)", "lw \t x1,8(x2)", "lw\t \tx1,8(x2)",
				"lw x1 ,8(x2)", "lw x1, 8(x2)", "lw x1\t,\t8(x2)", "lw x1 \t,\t 8(x2)", "lw x1,8 (x2)", "lw x1,8\t(x2)", "lw x1,8( x2)", "lw x1,8(x2 )", "lw x1,8(\tx2\t)",
				"\t lw \tx1 \t, \t8 \t( \tx2 \t) \t",
			},
			api.Instr{Op: api.Lw, Rd: 1, Rs1: 2, Imm: 8},
		},
		{
			[]string{" sd x3,-16(x4)", "sd\tx3\t,\t-16\t(\tx4\t)\t", "sd x3 , -16 ( x4 ) "},
			api.Instr{Op: api.Sd, Rs2: 3, Rs1: 4, Imm: -16},
		},
		{
			[]string{" amoadd.w.aq x1 , x2 , (x3)", "amoadd.w.aq\tx1\t,\tx2\t,\t(\tx3\t)\t", "amoadd.w.aq x1,x2,( x3 )"},
			api.Instr{Op: api.AmoaddW, Rd: 1, Rs1: 3, Rs2: 2, Aq: true},
		},
		{
			[]string{"lr.d   x1,(x2)", "lr.d x1 ,(x2)", "lr.d x1, (x2)", "lr.d x1,\t( x2 )", " lr.d x1 , \t (x2\t) "},
			api.Instr{Op: api.LrD, Rd: 1, Rs1: 2},
		},
		{
			[]string{" add x1,x2,x3", "add  x1 , x2\t,\tx3\t", "\tadd\tx1,x2 ,x3"},
			api.Instr{Op: api.Add, Rd: 1, Rs1: 2, Rs2: 3},
		},
		{
			[]string{"csrrwi x1 , 0x304 , 8", "\tcsrrwi\tx1\t,\t0x304\t,\t8\t"},
			api.Instr{Op: api.Csrrwi, Rd: 1, CSR: 0x304, Imm: 8},
		},
		{[]string{"ecall", " ecall", "ecall ", "\tecall\t", "  \t ecall \t  "}, api.Instr{Op: api.Ecall}},
	} {
		for _, s := range c.list {
			read(t, s, c.want)
		}
	}
}

// P4.2: a blank more at any place of a text: one between pieces changes nothing, one inside a piece makes it none.
func TestBlanksAtEveryPlace(t *testing.T) {
	between := func(c byte) bool { return strings.IndexByte(" ,()", c) >= 0 }
	for _, list := range [][]row{rows, ends} {
		for _, r := range list {
			for i := range len(r.s) + 1 {
				for _, blank := range []string{" ", "\t", " \t", "\t \t  "} {
					s := r.s[:i] + blank + r.s[i:]
					if i > 0 && i < len(r.s) && !between(r.s[i-1]) && !between(r.s[i]) {
						refused(t, s)
					} else {
						read(t, s, r.x)
					}
				}
				// What other texts take for a blank is none here.
				for _, other := range []string{"\n", "\r", "\v", "\f", "\x00", "\u00a0", "\u2003", "\x85"} {
					refused(t, r.s[:i]+other+r.s[i:])
				}
			}
		}
	}
}

// P4.2: numbers and system registers as any text that word.ParseInt reads.
func TestNumbers(t *testing.T) {
	for _, c := range []struct {
		list []string
		want api.Instr
	}{
		{[]string{"addi x1,x2,16", "addi x1,x2,0x10", "addi x1,x2,016", "addi x1,x2,0x0010", "addi x1,x2,0000000000000000000000000016"}, api.Instr{Op: api.Addi, Rd: 1, Rs1: 2, Imm: 16}},
		{[]string{"addi x1,x2,-16", "addi x1,x2,-0x10", "addi x1,x2,-016", "addi x1,x2,-0x0000000000000000000010"}, api.Instr{Op: api.Addi, Rd: 1, Rs1: 2, Imm: -16}},
		{[]string{"addi x1,x2,0", "addi x1,x2,-0", "addi x1,x2,00", "addi x1,x2,0x0", "addi x1,x2,-0x0", "addi x1,x2,-00"}, api.Instr{Op: api.Addi, Rd: 1, Rs1: 2}},
		{[]string{"addi x0,x0,-2048", "addi x0,x0,-0x800", "addi x0,x0,-02048"}, api.Instr{Op: api.Addi, Imm: -2048}},
		{[]string{"addi x0,x0,2047", "addi x0,x0,0x7ff"}, api.Instr{Op: api.Addi, Imm: 2047}},
		{[]string{"lui x1,-1", "lui x1,-0x1", "lui x1,-01"}, api.Instr{Op: api.Lui, Rd: 1, Imm: -4096}},
		{[]string{"lui x1,524287", "lui x1,0x7ffff"}, api.Instr{Op: api.Lui, Rd: 1, Imm: 0x7ffff000}},
		{[]string{"auipc x1,-524288", "auipc x1,-0x80000"}, api.Instr{Op: api.Auipc, Rd: 1, Imm: -0x80000000}},
		{[]string{"jal x0,-4", "jal x0,-0x4"}, api.Instr{Op: api.Jal, Imm: -4}},
		{[]string{"lw x1,0xff(x2)", "lw x1,255(x2)", "lw x1,00255 (x2)"}, api.Instr{Op: api.Lw, Rd: 1, Rs1: 2, Imm: 255}},
		{[]string{"sw x1,-0xff(x2)", "sw x1,-255(x2)"}, api.Instr{Op: api.Sw, Rs2: 1, Rs1: 2, Imm: -255}},
		{[]string{"bne x1,x2,0x8", "bne x1,x2,08"}, api.Instr{Op: api.Bne, Rs1: 1, Rs2: 2, Imm: 8}},
		{[]string{"srai x1,x2,0x3f", "srai x1,x2,063"}, api.Instr{Op: api.Srai, Rd: 1, Rs1: 2, Imm: 63}},
		{[]string{"fence x0,x0,0xfff", "fence x0,x0,4095"}, api.Instr{Op: api.Fence, Imm: 4095}},
		{[]string{"csrrs x1,0x300,x0", "csrrs x1,768,x0", "csrrs x1,0x0300,x0", "csrrs x1,0768,x0"}, api.Instr{Op: api.Csrrs, Rd: 1, CSR: 0x300}},
		{[]string{"csrrs x1,0x0,x0", "csrrs x1,0,x0", "csrrs x1,-0,x0", "csrrs x1,-0x0,x0"}, api.Instr{Op: api.Csrrs, Rd: 1}},
		{[]string{"csrrci x0,0xfff,31", "csrrci x0,4095,0x1f", "csrrci x0,04095,031"}, api.Instr{Op: api.Csrrci, CSR: 4095, Imm: 31}},
	} {
		for _, s := range c.list {
			read(t, s, c.want)
		}
	}
}

// P4.2: numbers beyond a form's ends, uneven ones, and such as come into the ends only if 64 bits are passed.
func TestNumbersBeyondTheEnds(t *testing.T) {
	for _, c := range []struct {
		text string
		list []string
	}{
		{"lui x1,N", []string{"-524289", "524288", "0x80000", "0xfffff", "4096000", "4503599627370496", "0x10000000000000", "0x10000000000001", "-4503599627370496", "0x7fffffffffffffff", "-0x8000000000000000"}},
		{"auipc x1,N", []string{"-524289", "524288", "0x10000000000000", "-0x10000000000000"}},
		{"jal x1,N", []string{"-1048578", "1048576", "-1048577", "1048575", "1", "-1", "3"}},
		{"jalr x1,x2,N", []string{"-2049", "2048", "0xfff", "4096"}},
		{"addiw x1,x2,N", []string{"-2049", "2048"}},
		{"ld x1,N(x2)", []string{"-2049", "2048", "0xffffffffffffffff"}},
		{"sb x1,N(x2)", []string{"-2049", "2048"}},
		{"blt x1,x2,N", []string{"-4098", "4096", "-4097", "4095", "1", "-1"}},
		{"slli x1,x2,N", []string{"-1", "64"}},
		{"sraiw x1,x2,N", []string{"-1", "32", "63"}},
		{"fence x1,x2,N", []string{"-1", "4096"}},
		{"fence.i x1,x2,N", []string{"-1", "4096"}},
		{"csrrw x1,N,x2", []string{"-1", "4096", "0x1000", "4294967296", "0x100000300", "-0x1"}},
		{"csrrwi x1,N,1", []string{"-1", "4096", "0x100000000"}},
		{"csrrwi x1,1,N", []string{"-1", "32", "0x20"}},
	} {
		for _, n := range append(c.list, "9223372036854775807", "9223372036854775808", "-9223372036854775807", "-9223372036854775809", "18446744073709551616", "0x10000000000000000", "-0x10000000000000000") {
			refused(t, strings.Replace(c.text, "N", n, 1))
		}
	}
}

// P4.2: texts that aren't numbers.
func TestNoNumbers(t *testing.T) {
	for _, text := range []string{"lui x1,N", "jal x1,N", "addi x1,x2,N", "lw x1,N(x2)", "sw x1,N(x2)", "beq x1,x2,N", "slli x1,x2,N", "fence x1,x2,N", "csrrw x1,N,x2", "csrrwi x1,N,2", "csrrwi x1,2,N"} {
		read(t, strings.Replace(text, "N", "2", 1), must(t, strings.Replace(text, "N", "0x2", 1)))
		for _, n := range []string{"", " ", "-", "0x", "-0x", "+2", "--2", "2-", "0X2", "0xA", "0b1", "0o2", "2h", "x2", "a", "2.", "2.0", "2e0", "1_0", "'2'", "- 2", "0 x2", "0x 2", "1 2", "2 2", "0x-2", "(2)", "2,", ",2", "mstatus", "２", "2\x00"} {
			refused(t, strings.Replace(text, "N", n, 1))
		}
	}
}

func must(t *testing.T, s string) api.Instr {
	t.Helper()
	x, e := Parse(s)
	if e != api.OK {
		t.Fatalf("Parse(%q): %d", s, e)
	}
	return x
}

// P4.2: texts that aren't registers.
func TestNoRegisters(t *testing.T) {
	for _, text := range []string{"lui R,1", "jal R,2", "jalr R,x1,0", "addi x1,R,0", "add R,x1,x2", "add x1,R,x2", "add x1,x2,R", "lw R,0(x1)", "lw x1,0(R)", "sw R,0(x1)", "sw x1,0(R)", "beq R,x1,0", "beq x1,R,0", "csrrw R,0x1,x1", "csrrw x1,0x1,R", "csrrwi R,0x1,1", "lr.w R,(x1)", "lr.w x1,(R)", "sc.d R,x1,(x2)", "sc.d x1,R,(x2)", "sc.d x1,x2,(R)", "sfence.vma R,x1", "sfence.vma x1,R", "fence R,x0,0"} {
		for n := range 32 {
			must(t, strings.Replace(text, "R", Reg(n), 1))
		}
		for _, r := range []string{"x32", "x33", "x99", "x100", "x01", "x00", "x031", "x-1", "x-0", "x", "", " ", "X1", "1", "0", "-1", "xx1", "1x", "x1x", "x0x1", "x0x", "x+1", "x 1", "x1 1", "x1 x1", "x1.", ".x1", "(x1)", "x1)", "(x1", "((x1)", "x(1)", "a0", "zero", "ra", "sp", "pc", "r1", "x4294967297", "x18446744073709551617", "x9223372036854775807", "x-9223372036854775808", "ⅹ1", "x１", "x1\x00"} {
			refused(t, strings.Replace(text, "R", r, 1))
		}
	}
}

// P4.2: names that are none, and .aq and .rl where they may not be.
func TestNoNames(t *testing.T) {
	for _, r := range rows {
		name, rest, _ := strings.Cut(r.s, " ")
		atomic := r.x.Op >= api.LrW && r.x.Op <= api.AmomaxuD
		for _, order := range []string{".aq", ".rl", ".aqrl"} {
			if !atomic {
				refused(t, name+order+" "+rest)
				refused(t, name+order)
			}
			refused(t, name+" "+order+" "+rest)
			refused(t, order+" "+rest)
			refused(t, order+name+" "+rest)
		}
		for _, order := range []string{".", ".rlaq", ".aq.rl", ".rl.aq", ".aqrl.aq", ".aq.aq", ".rl.rl", ".aqrlaq", ".aqrl.", ".aq.", ".a", ".r", ".AQ", ".Rl", "aq", "rl", "aqrl", ".aq,rl", ".x"} {
			refused(t, name+order+" "+rest)
		}
		refused(t, strings.ToUpper(name)+" "+rest)
		refused(t, name+name+" "+rest)
		refused(t, name+" "+name+" "+rest)
		refused(t, "z"+name+" "+rest)
		refused(t, rest)
		refused(t, name[1:]+"~ "+rest)
		if atomic {
			refused(t, strings.TrimSuffix(strings.TrimSuffix(name, ".w"), ".d")+" "+rest)
			refused(t, strings.TrimSuffix(strings.TrimSuffix(name, ".w"), ".d")+".aq"+name[len(name)-2:]+" "+rest)
		}
	}
	for _, s := range []string{"nop", "ret", "li x1,1", "la x1,1", "mv x1,x2", "j 4", "jr x1", "call 4", "not x1,x2", "neg x1,x2", "beqz x1,4", "csrw 0x300,x1", "fencei x0,x0,0", ".word 1", "loop:", "ecall # a remark", "# ecall", "ecall;", "0x13", "0x00100093", "ecall ecall"} {
		refused(t, s)
	}
}

// P4.2: a part too many or too few, missing and added commas and brackets.
func TestOtherShapes(t *testing.T) {
	for _, list := range [][]row{rows, ends} {
		for _, r := range list {
			// Each mark or blank of the text is left out, doubled, and put in the place of each other.
			for i := range len(r.s) {
				if strings.IndexByte(" ,()", r.s[i]) < 0 {
					continue
				}
				refused(t, r.s[:i]+r.s[i+1:])
				for _, mark := range []string{" ", ",", "(", ")", ",,", "()", ";", ".", "[", "]"} {
					if mark[0] != r.s[i] {
						refused(t, r.s[:i]+mark+r.s[i+1:])
					}
					if mark != " " {
						refused(t, r.s[:i]+mark+r.s[i:])
						refused(t, r.s[:i+1]+mark+r.s[i+1:])
					}
				}
			}
			for _, more := range []string{",", ", ", "(", ")", "()", ",x1", ",1", " x1", " 1", "(x1)", " (x1)", ",(x1)", ",1(x1)", " ,", ";", "#", ",,"} {
				refused(t, r.s+more)
			}
			for _, more := range []string{",", "(", ")", "x1,", "1 ", "x1 ", "()"} {
				refused(t, more+r.s)
			}
			// A part too few: the first, the last, and each in the middle.
			name, rest, _ := strings.Cut(r.s, " ")
			parts := strings.Split(rest, ",")
			for i := range parts {
				if rest == "" {
					break
				}
				less := append(append([]string{}, parts[:i]...), parts[i+1:]...)
				refused(t, name+" "+strings.Join(less, ","))
				more := append(append(append([]string{}, parts[:i]...), parts[i]), parts[i:]...)
				refused(t, name+" "+strings.Join(more, ","))
			}
			if rest != "" {
				refused(t, name)
				refused(t, name+" ")
				refused(t, name+rest)
				refused(t, name+","+rest)
			}
		}
	}
}

// P4.2: some of these by hand, and a few besides.
func TestNoTexts(t *testing.T) {
	for _, s := range []string{
		"", " ", "\t", " \t \t", "\n", ",", "(", ")", "()", "x1", "1", ".", ".aq",
		"addi x1,x2", "addi x1", "addi", "addi ", "addi x1,x2,3,4", "addi x1,x2,x3", "addi x1,2,3", "addi x1 x2,3", "addi x1,x2 3", "addi x1,,3", "addi ,x1,x2,3", "addi x1,x2,3,",
		"add x1,x2,3", "add x1", "lw x1,8,x2", "lw x1,8 x2", "lw x1,(x2)", "lw x1, (x2)", "lw x1,8(x2", "lw x1,8x2)", "lw x1,8()", "lw x1,8(2)", "lw x1,8((x2))", "lw x1,8(x2)(x2)", "lw x1,8(x2)8", "lw x1,x2,8", "lw x1,x2(8)", "lw x1,8)x2(", "lw x1,(x2)8", "lw (x1),8(x2)", "lw x1,(8)(x2)", "lw x1,8(x2,)", "lw x1,8,(x2)", "lw x1(x2)", "lw 8(x2),x1",
		"lr.w x1,x2", "lr.w x1,0(x2)", "lr.w x1(x2)", "lr.w x1 (x2)", "lr.w x1,(x2),x3", "lr.w x1,x2,(x3)", "lr.w x1,()", "lr.w (x1),(x2)",
		"amoadd.w x1,x2,x3", "amoadd.w x1,x2(x3)", "amoadd.w x1,x2,0(x3)", "amoadd.w x1,(x3)", "amoadd.w x1,(x3),x2",
		"csrrw x1,x2,0x300", "csrrw x1,x2,x3", "csrrw x1,0x300", "csrrw x1,0x300,1", "csrrwi x1,0x300,x1", "csrrwi x1,0x300,1,1",
		"ecall x0", "ecall 0", "ecall ,", "ecall()", "mret x1", "wfi 1", "sfence.vma", "sfence.vma x1", "sfence.vma x1,x2,x3", "fence", "fence.i", "fence x1,x2", "fence x1,x2,x3", "fence rw,rw",
		"jal 4", "jal x1,x2", "jal x1,x2,4", "jalr x1", "jalr x1,4(x2)", "beq x1,x2", "beq x1,x2,x3", "beq x1,4", "lui x1", "lui x1,x2", "lui 1,x1", "lui x1,1,1",
		"addi x1,x2,3\n", "\naddi x1,x2,3", "addi x1,x2,3\r", "addi\nx1,x2,3", "addi x1,x2,3\naddi x1,x2,3", "addi\u00a0x1,x2,3", "\ufeffaddi x1,x2,3", "\xff", "addi x1,x2,\xff", "\x00addi x1,x2,3",
	} {
		refused(t, s)
	}
}

// P4.2: texts with all that is allowed and some faults by chance, held against the model.
func TestManyTextsWithFaults(t *testing.T) {
	m := newModel()
	names := m.names()
	chance := rand.New(rand.NewSource(5))
	read, none := 0, 0
	for range 300000 {
		name := names[chance.Intn(len(names))]
		_, s := m[name].byChance(chance, name)
		s = loosened(chance, s)
		for range chance.Intn(3) {
			s = spoiled(chance, s)
		}
		want, is := m.parse(s)
		got, e := Parse(s)
		if is && (e != api.OK || got != want) || !is && (e != api.ErrText || got != api.Instr{}) {
			t.Fatalf("Parse(%q): %+v, %d; the model: %+v, %v", s, got, e, want, is)
		}
		if is {
			read++
		} else {
			none++
		}
	}
	if read < 50000 || none < 50000 {
		t.Errorf("%d texts were read, %d were none", read, none)
	}
}

// loosened: a text with more blanks between its pieces.
func loosened(chance *rand.Rand, s string) string {
	some := func() string { return []string{"", "", "", " ", "\t", " \t", "   "}[chance.Intn(7)] }
	out := some()
	for i := range len(s) {
		if strings.IndexByte(" ,()", s[i]) >= 0 {
			out += some() + s[i:i+1] + some()
		} else {
			out += s[i : i+1]
		}
	}
	return out + some()
}

// spoiled: a text with one change, after which it may be an instruction's or not.
func spoiled(chance *rand.Rand, s string) string {
	alphabet := " \t,()x0123456789-abcdef.qrlw\nX"
	c := alphabet[chance.Intn(len(alphabet))]
	i := chance.Intn(len(s) + 1)
	j := i + chance.Intn(len(s)-i+1)
	switch chance.Intn(6) {
	case 0:
		return s[:i] + string(c) + s[i:]
	case 1:
		return s[:i] + s[min(i+1, len(s)):]
	case 2:
		return s[:i] + string(c) + s[min(i+1, len(s)):]
	case 3:
		return s[:i] + s[j:]
	case 4:
		return s[:j] + s[i:]
	}
	parts := strings.Split(s, ",")
	a, b := chance.Intn(len(parts)), chance.Intn(len(parts))
	parts[a], parts[b] = parts[b], parts[a]
	return strings.Join(parts, ",")
}
