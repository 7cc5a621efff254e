package inst

import (
	"math/rand"
	"testing"

	"vireo/api"
)

// P3.1 and P3.2: words that are known from elsewhere, so that the model and the package can't err alike.
func TestKnownWords(t *testing.T) {
	for _, c := range []struct {
		x api.Instr
		w uint32
	}{
		{api.Instr{Op: api.Addi, Rd: 1, Imm: 1}, 0x00100093},
		{api.Instr{Op: api.Addi}, 0x00000013},
		{api.Instr{Op: api.Addi, Rd: 2, Rs1: 2, Imm: -16}, 0xff010113},
		{api.Instr{Op: api.Addi, Rd: 2, Rs1: 2, Imm: -2048}, 0x80010113},
		{api.Instr{Op: api.Addi, Rd: 2, Rs1: 2, Imm: 2047}, 0x7ff10113},
		{api.Instr{Op: api.Ecall}, 0x00000073},
		{api.Instr{Op: api.Ebreak}, 0x00100073},
		{api.Instr{Op: api.Mret}, 0x30200073},
		{api.Instr{Op: api.Sret}, 0x10200073},
		{api.Instr{Op: api.Wfi}, 0x10500073},
		{api.Instr{Op: api.SfenceVma}, 0x12000073},
		{api.Instr{Op: api.SfenceVma, Rs1: 10, Rs2: 11}, 0x12b50073},
		{api.Instr{Op: api.FenceI}, 0x0000100f},
		{api.Instr{Op: api.Fence, Imm: 0xff}, 0x0ff0000f},
		{api.Instr{Op: api.Fence, Imm: 0x833}, 0x8330000f},
		{api.Instr{Op: api.Lui, Rd: 5, Imm: 0x12345000}, 0x123452b7},
		{api.Instr{Op: api.Lui, Rd: 5, Imm: -1 << 31}, 0x800002b7},
		{api.Instr{Op: api.Auipc, Rd: 10, Imm: 0}, 0x00000517},
		{api.Instr{Op: api.Jal, Imm: -4}, 0xffdff06f},
		{api.Instr{Op: api.Jal, Rd: 1, Imm: 2048}, 0x001000ef},
		{api.Instr{Op: api.Jal, Imm: -1 << 20}, 0x8000006f},
		{api.Instr{Op: api.Jal, Imm: 1<<20 - 2}, 0x7ffff06f},
		{api.Instr{Op: api.Jalr, Rs1: 1}, 0x00008067},
		{api.Instr{Op: api.Beq, Imm: -4}, 0xfe000ee3},
		{api.Instr{Op: api.Bne, Rs1: 10, Rs2: 11, Imm: 8}, 0x00b51463},
		{api.Instr{Op: api.Bgeu, Imm: -4096}, 0x80007063},
		{api.Instr{Op: api.Bgeu, Imm: 4094}, 0x7e007fe3},
		{api.Instr{Op: api.Lw, Rd: 10, Rs1: 2, Imm: 12}, 0x00c12503},
		{api.Instr{Op: api.Ld, Rd: 1, Rs1: 2, Imm: 8}, 0x00813083},
		{api.Instr{Op: api.Lwu, Rd: 1, Rs1: 2, Imm: -1}, 0xfff16083},
		{api.Instr{Op: api.Sd, Rs1: 2, Rs2: 1, Imm: 8}, 0x00113423},
		{api.Instr{Op: api.Sb, Rs1: 2, Rs2: 1, Imm: -2048}, 0x80110023},
		{api.Instr{Op: api.Slli, Rd: 10, Rs1: 10, Imm: 32}, 0x02051513},
		{api.Instr{Op: api.Srai, Rd: 10, Rs1: 10, Imm: 63}, 0x43f55513},
		{api.Instr{Op: api.Sraiw, Rd: 10, Rs1: 10, Imm: 31}, 0x41f5551b},
		{api.Instr{Op: api.Add, Rd: 10, Rs1: 11, Rs2: 12}, 0x00c58533},
		{api.Instr{Op: api.Sub, Rd: 10, Rs1: 11, Rs2: 12}, 0x40c58533},
		{api.Instr{Op: api.Subw, Rd: 10, Rs1: 11, Rs2: 12}, 0x40c5853b},
		{api.Instr{Op: api.Mul, Rd: 10, Rs1: 11, Rs2: 12}, 0x02c58533},
		{api.Instr{Op: api.Remuw, Rd: 10, Rs1: 11, Rs2: 12}, 0x02c5f53b},
		{api.Instr{Op: api.Csrrs, Rd: 10, CSR: 0xf14}, 0xf1402573},
		{api.Instr{Op: api.Csrrw, Rs1: 5, CSR: 0x305}, 0x30529073},
		{api.Instr{Op: api.Csrrwi, CSR: 0x300, Imm: 8}, 0x30045073},
		{api.Instr{Op: api.LrD, Rd: 10, Rs1: 11}, 0x1005b52f},
		{api.Instr{Op: api.ScW, Rd: 10, Rs1: 11, Rs2: 12}, 0x18c5a52f},
		{api.Instr{Op: api.AmoaddW, Rd: 5, Rs1: 7, Rs2: 6, Aq: true, Rl: true}, 0x0663a2af},
		{api.Instr{Op: api.AmoaddW, Rd: 5, Rs1: 7, Rs2: 6, Aq: true}, 0x0463a2af},
		{api.Instr{Op: api.AmoaddW, Rd: 5, Rs1: 7, Rs2: 6, Rl: true}, 0x0263a2af},
		{api.Instr{Op: api.AmomaxuD, Rd: 10, Rs1: 11, Rs2: 12}, 0xe0c5b52f},
	} {
		if w, e := Encode(c.x); e != api.OK || w != c.w {
			t.Errorf("Encode(%+v): %08x, %d; not %08x", c.x, w, e, c.w)
		}
		if x, e := Decode(c.w); e != api.OK || x != c.x {
			t.Errorf("Decode(%08x): %+v, %d", c.w, x, e)
		}
	}
}

// P3.1 and P3.2: of every operation the word without parts: its code, its f3 and its f7.
func TestWordOfEveryOperation(t *testing.T) {
	for _, r := range rows {
		place := map[string]int{"alone": 20, "reserve": 27, "atomic": 27}[r.form]
		if place == 0 {
			place = 25
		}
		x, w := api.Instr{Op: r.op}, r.code|r.f3<<12|r.f7<<place
		if got, e := Encode(x); e != api.OK || got != w {
			t.Errorf("%s: %08x, %d; not %08x", r.name, got, e, w)
		}
		if got, e := Decode(w); e != api.OK || got != x {
			t.Errorf("%08x: %+v, %d; not %s", w, got, e, r.name)
		}
	}
}

// P3.1, P3.2 and P3.4: instructions that are right have the model's words, no two the same, and these lead back to them.
func TestThereAndBack(t *testing.T) {
	whose := map[uint32]api.Instr{}
	for _, r := range rows {
		for _, x := range someRight(r) {
			w, e := Encode(x)
			if e != api.OK || w != wordOf(r, x) {
				t.Fatalf("Encode(%+v): %08x, %d; not %08x", x, w, e, wordOf(r, x))
			}
			if y, e := Decode(w); e != api.OK || y != x {
				t.Fatalf("Decode(%08x): %+v, %d; not %+v", w, y, e, x)
			}
			if y, is := whose[w]; is && y != x {
				t.Fatalf("%08x is the word of %+v and of %+v", w, x, y)
			}
			whose[w] = x
		}
	}
}

// decoded: does Decode say of a word what the model says, and does what it says lead back to the word?
func decoded(t *testing.T, w uint32) {
	t.Helper()
	got, e := Decode(w)
	want, is := instrOf(w)
	if !is {
		if e != api.ErrWord || got != (api.Instr{}) {
			t.Errorf("Decode(%08x): %+v, %d; there is none", w, got, e)
		}
		return
	}
	if e != api.OK || got != want {
		t.Errorf("Decode(%08x): %+v, %d; not %+v", w, got, e, want)
	}
	if back, e := Encode(got); e != api.OK || back != w {
		t.Errorf("%08x comes back as %08x, %d", w, back, e)
	}
}

// P3.2 and P3.4: words that differ from a right one in one bit or in two.
func TestWordsBesideRightOnes(t *testing.T) {
	for _, r := range rows {
		l := layouts[r.form]
		full := cut(l, api.Instr{Op: r.op, Rd: 31, Rs1: 31, Rs2: 31, CSR: 4095, Imm: l.last, Aq: true, Rl: true})
		for _, x := range []api.Instr{{Op: r.op}, full} {
			w := wordOf(r, x)
			for i := range 32 {
				for j := range 32 {
					decoded(t, w^1<<i^1<<j)
				}
				decoded(t, w^1<<i)
			}
		}
	}
}

// P3.2 and P3.4: all codes, each with all f3 and f7, and words by chance.
func TestManyWords(t *testing.T) {
	for low := range uint32(1 << 7) {
		for f3 := range uint32(8) {
			for f7 := range uint32(1 << 7) {
				decoded(t, low|f3<<12|f7<<25)
			}
		}
	}
	chance := rand.New(rand.NewSource(3))
	for range 20000 {
		w := chance.Uint32()
		decoded(t, w)
		decoded(t, w&^0x7f|rows[chance.Intn(api.LastOp)].code)
	}
}

// P3.2: words of no instruction.
func TestNoWords(t *testing.T) {
	for _, w := range []uint32{
		0, 1, 2, 3 << 5, 0xffffffff, 0x7f, 0x80000000, 0xffffff80,
		0x00100090, 0x00100091, 0x00100092, // addi x1,x0,1 with other low bits
		0x00009067,             // jalr, f3 1
		0x00002063, 0x00003063, // branches, f3 2 and 3
		0x00007003,             // a load, f3 7
		0x00004023, 0x00007023, // stores, f3 4 and 7
		0x04051513, 0x08051513, 0x80051513, 0x40051513, // slli with a bit above its Imm
		0x04055513, 0x60055513, 0xc0055513, // srli, srai
		0x0205151b, 0x4005151b, 0x0405551b, 0x4205551b, // slliw, srliw, sraiw with bit 25 and others
		0x0000201b, 0x0000701b, // f3 2 and 7 of addiw's code
		0x04c58533, 0x42c58533, 0x40c59533, 0x20c58533, // f7 2, 21, 20 of sll, 10
		0x00c5a53b, 0x02c5953b, 0x40c5953b, // f3 2; f3 1, f7 1; f3 1, f7 20
		0x0000200f, 0x0000700f, // fences, f3 2 and 7
		0x000000f3, 0x00008073, 0x00200073, 0x80000073, 0x00180073, // ecall and ebreak with a bit more
		0x302000f3, 0x30208073, 0x30000073, 0x30300073, 0x102000f3, 0x10400073, 0x90500073, // mret, sret, wfi
		0x120000f3, 0x12000173, 0x16000073, 0x32000073, // sfence.vma
		0x30004073,                                     // f3 4
		0x1015b52f, 0x11f5b52f, 0x1405852f, 0x1005c52f, // lr.d with Rs2, f3 0, f3 4
		0x28c5a52f, 0x48c5a52f, 0xf0c5a52f, 0xe8c5b52f, // no atomic's f7
		0x00c5852f, 0x00c5952f, 0x00c5c52f, 0x00c5f52f, // f3 0, 1, 4, 7 of amoadd
	} {
		if x, e := Decode(w); e != api.ErrWord || x != (api.Instr{}) {
			t.Errorf("Decode(%08x): %+v, %d", w, x, e)
		}
	}
}
