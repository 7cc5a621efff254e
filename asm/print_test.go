package asm

import (
	"math"
	"math/rand"
	"strings"
	"testing"

	"vireo/api"
	"vireo/inst"
)

// The rows have each operation just once, in api's order, and the model knows each.
func TestRowsAreWhole(t *testing.T) {
	if len(rows) != api.LastOp {
		t.Fatalf("%d rows of %d operations", len(rows), api.LastOp)
	}
	m := newModel()
	for i, r := range rows {
		if r.x.Op != i+1 {
			t.Errorf("row %d is of the operation %d", i, r.x.Op)
		}
		if x, is := m.parse(r.s); !is || x != r.x {
			t.Errorf("the model says of %q: %+v, %v", r.s, x, is)
		}
	}
	if got := len(m.names()); got != api.LastOp+3*22 || got != len(m) {
		t.Errorf("the model knows %d names", got)
	}
}

// P4.1

func TestReg(t *testing.T) {
	for _, c := range []struct {
		n    int
		want string
	}{
		{0, "x0"}, {1, "x1"}, {9, "x9"}, {10, "x10"}, {31, "x31"}, {32, "x32"}, {1000, "x1000"}, {-1, "x-1"}, {-32, "x-32"},
		{math.MaxInt64, "x9223372036854775807"}, {math.MinInt64, "x-9223372036854775808"},
	} {
		if got := Reg(c.n); got != c.want {
			t.Errorf("Reg(%d): %q", c.n, got)
		}
	}
}

// printed: is that the instruction's text, and does the text lead back?
func printed(t *testing.T, x api.Instr, s string) {
	t.Helper()
	if got := Print(x); got != s {
		t.Errorf("Print(%+v): %q, not %q", x, got, s)
	}
	if got, e := Parse(s); e != api.OK || got != x {
		t.Errorf("Parse(%q): %+v, %d, not %+v", s, got, e, x)
	}
}

// P4.1 and P4.4: of every operation, and at every form's ends.
func TestTexts(t *testing.T) {
	for _, r := range rows {
		printed(t, r.x, r.s)
	}
	for _, r := range ends {
		printed(t, r.x, r.s)
	}
}

// P4.1 and P4.4: Aq and Rl in all four ways; one that isn't atomic has neither.
func TestOrders(t *testing.T) {
	printed(t, api.Instr{Op: api.LrD, Rd: 1, Rs1: 2, Aq: true}, "lr.d.aq x1,(x2)")
	printed(t, api.Instr{Op: api.AmoaddW, Rd: 1, Rs1: 3, Rs2: 2, Rl: true}, "amoadd.w.rl x1,x2,(x3)")
	printed(t, api.Instr{Op: api.ScW, Rd: 1, Rs1: 3, Rs2: 2, Aq: true, Rl: true}, "sc.w.aqrl x1,x2,(x3)")
	atomics := 0
	for _, r := range rows {
		for _, c := range []struct {
			aq, rl bool
			mark   string
		}{{false, false, ""}, {true, false, ".aq"}, {false, true, ".rl"}, {true, true, ".aqrl"}} {
			name, rest, _ := strings.Cut(r.s, " ")
			x := r.x
			x.Aq, x.Rl = c.aq, c.rl
			if r.x.Op >= api.LrW && r.x.Op <= api.AmomaxuD {
				printed(t, x, name+c.mark+" "+rest)
				atomics++
			} else if got := Print(x); c.mark != "" && got != "" {
				t.Errorf("Print(%+v): %q", x, got)
			}
		}
	}
	if atomics != 4*22 {
		t.Errorf("%d texts of atomic ones", atomics)
	}
}

// P4.1: what isn't right has no text.
func TestPrintOfWrongOnes(t *testing.T) {
	for _, op := range []int{math.MinInt, -1, 0, api.LastOp + 1, 256 + api.Addi, math.MaxInt} {
		for _, x := range []api.Instr{{Op: op}, {Op: op, Rd: 1, Rs1: 2, Rs2: 3}, {Op: op, Rd: 1, Imm: 4}} {
			if got := Print(x); got != "" {
				t.Errorf("Print(%+v): %q", x, got)
			}
		}
	}
	for _, x := range []api.Instr{
		{Op: api.Add, Rd: 32}, {Op: api.Add, Rs1: 32}, {Op: api.Add, Rs2: 32}, {Op: api.Add, Rd: -1}, {Op: api.Add, Imm: 1}, {Op: api.Add, CSR: 1},
		{Op: api.Addi, Rs2: 1}, {Op: api.Addi, Imm: 2048}, {Op: api.Addi, Imm: -2049}, {Op: api.Addi, Aq: true}, {Op: api.Addi, Rl: true},
		{Op: api.Lui, Imm: 1}, {Op: api.Lui, Imm: 4095}, {Op: api.Lui, Imm: 1 << 31}, {Op: api.Lui, Imm: -1<<31 - 4096}, {Op: api.Lui, Rs1: 1},
		{Op: api.Jal, Imm: 3}, {Op: api.Jal, Imm: 1 << 20}, {Op: api.Beq, Imm: 1}, {Op: api.Beq, Imm: 4096}, {Op: api.Beq, Rd: 1},
		{Op: api.Lw, Rs2: 1}, {Op: api.Lw, Imm: 2048}, {Op: api.Sw, Rd: 1}, {Op: api.Sw, Imm: -2049},
		{Op: api.Slli, Imm: 64}, {Op: api.Slli, Imm: -1}, {Op: api.Slliw, Imm: 32}, {Op: api.Fence, Imm: -1}, {Op: api.FenceI, Imm: 4096},
		{Op: api.Ecall, Rd: 1}, {Op: api.Mret, Imm: 1}, {Op: api.Wfi, Aq: true},
		{Op: api.Csrrw, CSR: 4096}, {Op: api.Csrrw, CSR: -1}, {Op: api.Csrrw, Imm: 1}, {Op: api.Csrrwi, Imm: 32}, {Op: api.Csrrwi, Rs1: 1},
		{Op: api.LrW, Rs2: 1}, {Op: api.ScD, Imm: 1}, {Op: api.SfenceVma, Rd: 1}, {Op: api.SfenceVma, Rl: true},
	} {
		if got := Print(x); got != "" {
			t.Errorf("Print(%+v): %q", x, got)
		}
	}
}

// P4.1 and P4.4: many instructions, with texts that the model made.
func TestManyTexts(t *testing.T) {
	m := newModel()
	chance := rand.New(rand.NewSource(4))
	for _, name := range m.names() {
		for range 200 {
			x, s := m[name].byChance(chance, name)
			if inst.Right(x) != api.OK {
				t.Fatalf("%+v isn't right", x)
			}
			printed(t, x, s)
		}
	}
}
