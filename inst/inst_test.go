package inst

import (
	"math"
	"testing"

	"vireo/api"
)

// The chapter's table has each operation of api just once, in api's order.
func TestTableIsWhole(t *testing.T) {
	list := rows
	if len(list) != api.LastOp || list[0].op != api.Lui || api.LastOp != api.SfenceVma {
		t.Fatalf("%d rows, the last operation is %d", len(list), api.LastOp)
	}
	for i, r := range list {
		if r.op != i+1 {
			t.Errorf("row %d is of the operation %d", i, r.op)
		}
		if _, is := layouts[r.form]; !is {
			t.Errorf("%s: the form %s isn't there", r.name, r.form)
		}
	}
}

// P3.1

func TestNameAndFind(t *testing.T) {
	seen := map[string]int{}
	for _, r := range rows {
		if got := Name(r.op); got != r.name {
			t.Errorf("Name(%d): %q, not %q", r.op, got, r.name)
		}
		if got := Find(r.name); got != r.op {
			t.Errorf("Find(%q): %d, not %d", r.name, got, r.op)
		}
		if seen[r.name]++; seen[r.name] > 1 {
			t.Errorf("%q is the name of two", r.name)
		}
	}
}

func TestNameOfNone(t *testing.T) {
	for _, op := range noOps() {
		if got := Name(op); got != "" {
			t.Errorf("Name(%d): %q", op, got)
		}
	}
}

func TestFindNone(t *testing.T) {
	for _, name := range []string{
		"", " ", ".", "x", "a", "l", "lu", "luii", "LUI", "Lui", "lui ", " lui", "lui\x00", "lui\n", "auip", "nop", "li", "ret", "mv", "j",
		"fencei", "FenceI", "fence.", "fence.I", "fence_i", "lr", "lr.", "lr.b", "lrw", "LrW", "sc", "amoadd", "amoadd.", "amoadd.q", "amoaddw",
		"amoadd.w.aq", "sfence", "sfence.vm", "sfencevma", "subi", "lq", "sq", "sbu", "ldu", "mulhw", "mulhus", "uret", "csrrwii", "csrw", "ädd", "\xff",
	} {
		if got := Find(name); got != 0 {
			t.Errorf("Find(%q): %d", name, got)
		}
	}
	// Names with a byte more, a byte less or another one.
	for _, r := range rows {
		for i := range len(r.name) {
			for _, name := range []string{r.name[:i], r.name[i:] + "!", r.name[:i] + "!" + r.name[i+1:], r.name[:i] + "~" + r.name[i:]} {
				want := 0
				for _, o := range rows {
					if o.name == name {
						want = o.op
					}
				}
				if got := Find(name); got != want {
					t.Errorf("Find(%q): %d, not %d", name, got, want)
				}
			}
		}
	}
}

// P3.1: the edges of each form, by one operation each; those just beyond them aren't right.
func TestRightImm(t *testing.T) {
	for _, c := range []struct {
		op         int
		yes, wrong []int64
	}{
		{api.Lui, []int64{-1 << 31, -1<<31 + 4096, -4096, 0, 4096, 1<<31 - 8192, 1<<31 - 4096}, []int64{-1<<31 - 4096, -1<<31 - 1, -1<<31 + 1, -4097, -4095, -2048, -1, 1, 2, 2048, 4095, 4097, 1<<31 - 4097, 1<<31 - 4095, 1<<31 - 1, 1 << 31, 1<<31 + 4096, 1 << 32, -1 << 32}},
		{api.Auipc, []int64{-1 << 31, 0, 1<<31 - 4096}, []int64{-1<<31 - 4096, -1, 1, 2048, 1<<31 - 4095, 1 << 31}},
		{api.Jal, []int64{-1 << 20, -1<<20 + 2, -2, 0, 2, 4, 1<<20 - 4, 1<<20 - 2}, []int64{-1<<20 - 2, -1<<20 - 1, -1<<20 + 1, -3, -1, 1, 3, 1<<20 - 3, 1<<20 - 1, 1 << 20, 1<<20 + 2, 1 << 21, 1 << 32}},
		{api.Jalr, []int64{-2048, -2047, -1, 0, 1, 2046, 2047}, []int64{-4096, -2050, -2049, 2048, 2049, 4095, 1 << 12, 1 << 32}},
		{api.Addi, []int64{-2048, -1, 0, 1, 2047}, []int64{-2049, 2048, 4095}},
		{api.Addiw, []int64{-2048, -1, 0, 1, 2047}, []int64{-2049, 2048, 4095}},
		{api.Ld, []int64{-2048, -1, 0, 1, 2047}, []int64{-2049, 2048, 4095}},
		{api.Beq, []int64{-4096, -4094, -2, 0, 2, 4092, 4094}, []int64{-4098, -4097, -4095, -3, -1, 1, 3, 4093, 4095, 4096, 4098, 8190, 1 << 32}},
		{api.Sd, []int64{-2048, -1, 0, 1, 2047}, []int64{-2050, -2049, 2048, 2049, 4095}},
		{api.Slli, []int64{0, 1, 31, 32, 62, 63}, []int64{-64, -1, 64, 65, 127}},
		{api.Srai, []int64{0, 1, 31, 32, 62, 63}, []int64{-64, -1, 64, 65, 127}},
		{api.Slliw, []int64{0, 1, 15, 30, 31}, []int64{-32, -1, 32, 33, 63}},
		{api.Sraiw, []int64{0, 1, 15, 30, 31}, []int64{-32, -1, 32, 33, 63}},
		{api.Fence, []int64{0, 1, 0xff, 2047, 2048, 4094, 4095}, []int64{-2048, -1, 4096, 4097, 8191}},
		{api.FenceI, []int64{0, 1, 4095}, []int64{-1, 4096}},
		{api.Csrrwi, []int64{0, 1, 15, 16, 30, 31}, []int64{-32, -1, 32, 33, 63}},
		{api.Add, []int64{0}, []int64{-1, 1, 2, 4096}},
		{api.Ecall, []int64{0}, []int64{-1, 1, 2, 4096}},
		{api.Csrrw, []int64{0}, []int64{-1, 1, 2, 4096}},
		{api.LrW, []int64{0}, []int64{-1, 1, 2, 4096}},
		{api.AmoaddD, []int64{0}, []int64{-1, 1, 2, 4096}},
		{api.SfenceVma, []int64{0}, []int64{-1, 1, 2, 4096}},
	} {
		for _, n := range c.yes {
			if e := Right(api.Instr{Op: c.op, Imm: n}); e != api.OK {
				t.Errorf("%s, Imm %d: %d", Name(c.op), n, e)
			}
		}
		for _, n := range append(c.wrong, math.MinInt64, math.MinInt64+4096, math.MaxInt64, math.MaxInt64-4095) {
			refused(t, api.Instr{Op: c.op, Imm: n})
		}
	}
}

// refused: is an instruction not right, and do Right and Encode tell just that?
func refused(t *testing.T, x api.Instr) {
	t.Helper()
	if e := Right(x); e != api.ErrField {
		t.Errorf("Right(%+v): %d", x, e)
	}
	if w, e := Encode(x); e != api.ErrField || w != 0 {
		t.Errorf("Encode(%+v): %#x, %d", x, w, e)
	}
}

// P3.1: registers, system registers, Aq and Rl of every operation: such as the form has, else 0 and false.
func TestRightParts(t *testing.T) {
	numbers := []int{math.MinInt, -32, -31, -1, 0, 1, 15, 16, 30, 31, 32, 33, 63, 64, 4094, 4095, 4096, 4097, 1<<32 + 1, math.MaxInt}
	for _, r := range rows {
		l := layouts[r.form]
		var list []api.Instr
		for _, n := range numbers {
			list = append(list, api.Instr{Rd: n}, api.Instr{Rs1: n}, api.Instr{Rs2: n}, api.Instr{CSR: n}, api.Instr{Imm: int64(n)})
		}
		list = append(list, api.Instr{Aq: true}, api.Instr{Rl: true}, api.Instr{Aq: true, Rl: true})
		for _, x := range list {
			x.Op = r.op
			if !isRight(l, x) {
				refused(t, x)
				continue
			}
			if e := Right(x); e != api.OK {
				t.Errorf("Right(%+v): %d", x, e)
			}
			if w, e := Encode(x); e != api.OK || w != wordOf(r, x) {
				t.Errorf("Encode(%+v): %#x, %d", x, w, e)
			}
		}
	}
}

// The same, by some operations and without the model.
func TestRightPartsByHand(t *testing.T) {
	for _, c := range []struct {
		x  api.Instr
		is bool
	}{
		{api.Instr{Op: api.Add, Rd: 31, Rs1: 31, Rs2: 31}, true},
		{api.Instr{Op: api.Add, Rd: 32}, false},
		{api.Instr{Op: api.Add, Rs1: 32}, false},
		{api.Instr{Op: api.Add, Rs2: 32}, false},
		{api.Instr{Op: api.Add, Rd: -1}, false},
		{api.Instr{Op: api.Add, Rs1: -1}, false},
		{api.Instr{Op: api.Add, Rs2: -1}, false},
		{api.Instr{Op: api.Add, CSR: 1}, false},
		{api.Instr{Op: api.Add, Aq: true}, false},
		{api.Instr{Op: api.Add, Rl: true}, false},
		{api.Instr{Op: api.Lui, Rs1: 1}, false},
		{api.Instr{Op: api.Jal, Rs1: 1}, false},
		{api.Instr{Op: api.Addi, Rs2: 1}, false},
		{api.Instr{Op: api.Lw, Rs2: 1}, false},
		{api.Instr{Op: api.Beq, Rd: 1}, false},
		{api.Instr{Op: api.Sw, Rd: 1}, false},
		{api.Instr{Op: api.Slli, Rs2: 1}, false},
		{api.Instr{Op: api.Slliw, Rs2: 1}, false},
		{api.Instr{Op: api.Fence, Rd: 31, Rs1: 31, Imm: 4095}, true},
		{api.Instr{Op: api.Fence, Rs2: 1}, false},
		{api.Instr{Op: api.Ecall}, true},
		{api.Instr{Op: api.Ecall, Rd: 1}, false},
		{api.Instr{Op: api.Mret, Rs1: 1}, false},
		{api.Instr{Op: api.Wfi, Rs2: 1}, false},
		{api.Instr{Op: api.Ebreak, CSR: 1}, false},
		{api.Instr{Op: api.Csrrw, CSR: 4095}, true},
		{api.Instr{Op: api.Csrrw, CSR: 4096}, false},
		{api.Instr{Op: api.Csrrw, CSR: -1}, false},
		{api.Instr{Op: api.Csrrw, Rs2: 1}, false},
		{api.Instr{Op: api.Csrrwi, CSR: 4095, Imm: 31}, true},
		{api.Instr{Op: api.Csrrwi, CSR: 4096}, false},
		{api.Instr{Op: api.Csrrwi, Rs1: 1}, false},
		{api.Instr{Op: api.LrD, Rd: 1, Rs1: 2, Aq: true, Rl: true}, true},
		{api.Instr{Op: api.LrD, Rs2: 1}, false},
		{api.Instr{Op: api.ScD, Rd: 1, Rs1: 2, Rs2: 3, Aq: true, Rl: true}, true},
		{api.Instr{Op: api.ScD, CSR: 1}, false},
		{api.Instr{Op: api.SfenceVma, Rs1: 31, Rs2: 31}, true},
		{api.Instr{Op: api.SfenceVma, Rd: 1}, false},
		{api.Instr{Op: api.SfenceVma, Aq: true}, false},
	} {
		if !c.is {
			refused(t, c.x)
		} else if e := Right(c.x); e != api.OK {
			t.Errorf("Right(%+v): %d", c.x, e)
		}
	}
}

// P3.1: numbers of no operation, with any parts.
func TestRightOps(t *testing.T) {
	for _, op := range noOps() {
		refused(t, api.Instr{Op: op})
		refused(t, api.Instr{Op: op, Rd: 1, Rs1: 1, Imm: 1})
		refused(t, api.Instr{Op: op, Rd: -1, Rs1: 32, Rs2: math.MaxInt, Imm: math.MinInt64, CSR: 4096, Aq: true, Rl: true})
	}
	refused(t, api.Instr{})
}

// P3.3

func TestKinds(t *testing.T) {
	for _, r := range rows {
		for _, c := range []struct {
			what string
			got  bool
			want bool
		}{
			{"Loads", Loads(r.op), r.form == "load"},
			{"Stores", Stores(r.op), r.form == "store"},
			{"Branches", Branches(r.op), r.form == "branch"},
			{"Atomics", Atomics(r.op), r.form == "reserve" || r.form == "atomic"},
			{"Systems", Systems(r.op), r.form == "system" || r.form == "systemi"},
		} {
			if c.got != c.want {
				t.Errorf("%s of %s: %v", c.what, r.name, c.got)
			}
		}
	}
	for _, op := range noOps() {
		if Loads(op) || Stores(op) || Branches(op) || Atomics(op) || Systems(op) || Width(op) != 0 {
			t.Errorf("%d is no operation", op)
		}
	}
}

func TestKindsByHand(t *testing.T) {
	for _, op := range []int{api.Lb, api.Lh, api.Lw, api.Ld, api.Lbu, api.Lhu, api.Lwu} {
		if !Loads(op) || Stores(op) || Branches(op) || Atomics(op) || Systems(op) {
			t.Errorf("%d is a load alone", op)
		}
	}
	for _, op := range []int{api.Sb, api.Sh, api.Sw, api.Sd} {
		if Loads(op) || !Stores(op) || Branches(op) || Atomics(op) || Systems(op) {
			t.Errorf("%d is a store alone", op)
		}
	}
	for _, op := range []int{api.Beq, api.Bne, api.Blt, api.Bge, api.Bltu, api.Bgeu} {
		if Loads(op) || Stores(op) || !Branches(op) || Atomics(op) || Systems(op) {
			t.Errorf("%d is a branch alone", op)
		}
	}
	for op := api.LrW; op <= api.AmomaxuD; op++ {
		if Loads(op) || Stores(op) || Branches(op) || !Atomics(op) || Systems(op) {
			t.Errorf("%d is atomic alone", op)
		}
	}
	for op := api.Csrrw; op <= api.Csrrci; op++ {
		if Loads(op) || Stores(op) || Branches(op) || Atomics(op) || !Systems(op) {
			t.Errorf("%d is a system's alone", op)
		}
	}
	for _, op := range []int{api.Lui, api.Auipc, api.Jal, api.Jalr, api.Addi, api.Slli, api.Slliw, api.Add, api.Mul, api.Remuw, api.Fence, api.FenceI, api.Ecall, api.Ebreak, api.Mret, api.Sret, api.Wfi, api.SfenceVma} {
		if Loads(op) || Stores(op) || Branches(op) || Atomics(op) || Systems(op) {
			t.Errorf("%d is none of these", op)
		}
	}
}

func TestWidth(t *testing.T) {
	want := map[int]int{
		api.Lb: 1, api.Lh: 2, api.Lw: 4, api.Ld: 8, api.Lbu: 1, api.Lhu: 2, api.Lwu: 4,
		api.Sb: 1, api.Sh: 2, api.Sw: 4, api.Sd: 8,
	}
	for op := api.LrW; op <= api.AmomaxuW; op++ {
		want[op] = 4
	}
	for op := api.LrD; op <= api.AmomaxuD; op++ {
		want[op] = 8
	}
	for op := range 200 {
		if got := Width(op); got != want[op] {
			t.Errorf("Width(%d): %d, not %d", op, got, want[op])
		}
	}
}
