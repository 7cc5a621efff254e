package core

import (
	"fmt"
	"math/rand"
	"strings"
	"testing"

	"vireo/alu"
	"vireo/api"
	"vireo/inst"
	"vireo/mul"
)

// P22.3: lui is the number, auipc it and PC together; of 64 bits, with the number's sign.
func TestUpper(t *testing.T) {
	for _, c := range []struct {
		line string
		want uint64
	}{
		{"lui x1,0", 0}, {"lui x1,1", 0x1000}, {"lui x1,74565", 0x12345000}, {"lui x1,524287", 0x7ffff000}, {"lui x1,-524288", 0xffffffff80000000}, {"lui x1,-1", 0xfffffffffffff000},
		{"auipc x1,0", start}, {"auipc x1,1", start + 0x1000}, {"auipc x1,-1", start - 0x1000}, {"auipc x1,524287", start + 0x7ffff000}, {"auipc x1,-524288", start - 0x80000000},
	} {
		x := fresh(t)
		x.does(t, c.line, func(k *kept) { k.hart.X[1] = c.want })
		y := fresh(t)
		y.does(t, strings.Replace(c.line, "x1", "x0", 1), nil)
		z := fresh(t)
		z.does(t, strings.Replace(c.line, "x1", "x31", 1), func(k *kept) { k.hart.X[31] = c.want })
	}
}

// reckoned: operations, by hand, on words of two registers.
var reckoned = []struct {
	name       string
	a, b, want uint64
}{
	{"add", 5, 7, 12}, {"add", ones, 2, 1}, {"sub", 5, 7, ones - 1}, {"sub", 0, top, top},
	{"sll", 3, 65, 6}, {"sll", 1, 63, top}, {"slt", ones, 0, 1}, {"slt", 0, ones, 0}, {"slt", 3, 3, 0}, {"sltu", ones, 0, 0}, {"sltu", 0, ones, 1},
	{"xor", 0xff00ff, 0x0ff0f0, 0xf0f00f}, {"srl", top, 63, 1}, {"srl", ones, 64, ones}, {"sra", top, 63, ones}, {"sra", 0x7f, 4, 7}, {"or", 0xf0, 0x0f, 0xff}, {"and", 0xfff0, 0x0ff, 0xf0},
	{"addw", 0x7fffffff, 1, 0xffffffff80000000}, {"addw", 0x1ffffffff, 1, 0}, {"subw", 0, 1, ones}, {"subw", 1 << 32, 0, 0}, {"sllw", 1, 31, 0xffffffff80000000}, {"sllw", 3, 33, 6},
	{"srlw", 0xffffffff80000000, 31, 1}, {"srlw", 0xf00000000, 1, 0}, {"sraw", 0x80000000, 31, ones}, {"sraw", 0x17fffffff, 30, 1},
	{"mul", 1 << 32, 1 << 32, 0}, {"mul", ones, 7, ones - 6}, {"mulh", ones, ones, 0}, {"mulh", top, top, 1 << 62}, {"mulhsu", ones, ones, ones}, {"mulhsu", 5, ones, 4}, {"mulhu", ones, ones, ones - 1},
	{"div", ones - 6, 2, ones - 2}, {"div", 7, 0, ones}, {"div", top, ones, top}, {"divu", ones, 2, top - 1}, {"divu", 7, 0, ones}, {"rem", ones - 6, 2, ones}, {"rem", 7, 0, 7}, {"rem", top, ones, 0}, {"remu", 17, 5, 2}, {"remu", 17, 0, 17},
	{"mulw", 0x80000000, 3, 0xffffffff80000000}, {"mulw", 1 << 32, 5, 0}, {"divw", 0x80000000, 0xffffffff, 0xffffffff80000000}, {"divw", 7, 1 << 32, ones}, {"divuw", 0x1fffffffe, 2, 0x7fffffff}, {"divuw", 5, 0, ones},
	{"remw", 0xfffffff9, 2, ones}, {"remw", 0x80000000, 0, 0xffffffff80000000}, {"remuw", 0xffffffff, 16, 15}, {"remuw", 0x80000001, 0, 0xffffffff80000001},
}

// P22.3: what two registers come to, with Rd one of its own, one of those that are read, and 0.
func TestReckonByTwoRegisters(t *testing.T) {
	names := map[string]bool{}
	for _, c := range reckoned {
		names[c.name] = true
		for _, rd := range []int{3, 1, 2, 0, 31} {
			x := fresh(t)
			x.h.X[1], x.h.X[2] = c.a, c.b
			x.does(t, fmt.Sprintf("%s x%d,x1,x2", c.name, rd), func(k *kept) {
				if rd != 0 {
					k.hart.X[rd] = c.want
				}
			})
		}
	}
	if len(names) != 28 {
		t.Errorf("%d operations", len(names))
	}
	// One register in all places, and the first one, which is 0.
	x := fresh(t)
	x.h.X[1] = 9
	x.does(t, "mul x1,x1,x1", func(k *kept) { k.hart.X[1] = 81 })
	x.does(t, "sub x1,x1,x1", func(k *kept) { k.hart.X[1] = 0 })
	x.does(t, "sub x4,x0,x4", func(k *kept) { k.hart.X[4] = -filled(4) })
	x.does(t, "add x4,x31,x0", func(k *kept) { k.hart.X[4] = filled(31) })
	x.does(t, "divu x4,x31,x0", func(k *kept) { k.hart.X[4] = ones })
	x.does(t, "add x0,x0,x0", nil)
}

// P22.3: what a register and a number come to.
func TestReckonByANumber(t *testing.T) {
	for _, c := range []struct {
		name string
		a    uint64
		imm  int
		want uint64
	}{
		{"addi", 5, 2047, 2052}, {"addi", 5, -2048, ones - 2042}, {"addi", ones, 1, 0}, {"slti", ones - 1, -1, 1}, {"slti", 5, 5, 0}, {"slti", 5, -5, 0}, {"sltiu", 5, -1, 1}, {"sltiu", ones, -1, 0}, {"sltiu", 0, 1, 1},
		{"xori", 0xff, -1, ^uint64(0xff)}, {"xori", 0xff, 15, 0xf0}, {"ori", 0xf00, 0xf, 0xf0f}, {"ori", 0, -2048, ones - 2047}, {"andi", ones, -16, ones - 15}, {"andi", 0xff, 0x70, 0x70},
		{"slli", 3, 63, top}, {"slli", 3, 0, 3}, {"srli", ones, 63, 1}, {"srli", top, 32, 1 << 31}, {"srai", top, 63, ones}, {"srai", 0x80, 3, 0x10},
		{"addiw", 0x7fffffff, 1, 0xffffffff80000000}, {"addiw", 1 << 32, -1, ones}, {"addiw", 0xfedcba9876543210, 0, 0x76543210}, {"slliw", 1, 31, 0xffffffff80000000}, {"slliw", 0x180000001, 1, 2},
		{"srliw", 0xff80000000, 31, 1}, {"srliw", 0x80000000, 0, 0xffffffff80000000}, {"sraiw", 0x80000000, 31, ones}, {"sraiw", 0x170000000, 28, 7},
	} {
		for _, rd := range []int{3, 1, 0} {
			x := fresh(t)
			x.h.X[1] = c.a
			x.does(t, fmt.Sprintf("%s x%d,x1,%d", c.name, rd, c.imm), func(k *kept) {
				if rd != 0 {
					k.hart.X[rd] = c.want
				}
			})
		}
	}
	x := fresh(t)
	x.does(t, "addi x7,x0,-5", func(k *kept) { k.hart.X[7] = ones - 4 })
	// The number stands where a second register's would: no register is asked.
	x.does(t, "addi x7,x0,3", func(k *kept) { k.hart.X[7] = 3 })
	x.does(t, "srai x7,x7,1", func(k *kept) { k.hart.X[7] = 1 })
}

// P22.3: all that alu and mul reckon is theirs, whatever the words are.
func TestReckonAsTheLayersBelow(t *testing.T) {
	chance := rand.New(rand.NewSource(22))
	some := func() uint64 {
		list := []uint64{0, 1, 2, ones, top, top - 1, 1 << 31, 1 << 32, 0xffffffff, 0x7fffffff, 0xffffffff80000000, chance.Uint64(), chance.Uint64() >> 32}
		return list[chance.Intn(len(list))]
	}
	x := fresh(t)
	ops := 0
	for op := api.Lui; op <= api.LastOp; op++ {
		_, one := alu.Do(op, 0, 0)
		_, two := mul.Do(op, 0, 0)
		if !one && !two {
			continue
		}
		ops++
		for range 300 {
			a, b := some(), some()
			y := api.Instr{Op: op, Rd: chance.Intn(32), Rs1: 1 + chance.Intn(31), Rs2: 1 + chance.Intn(31)}
			x.h.X[y.Rs1] = a
			x.h.X[y.Rs2] = b
			a = x.h.X[y.Rs1]
			if inst.Right(y) != api.OK {
				y.Rs2, y.Imm = 0, int64(chance.Intn(32))
				if y.Imm > 20 && strings.HasSuffix(inst.Name(op), "i") && inst.Right(api.Instr{Op: op, Imm: -5}) == api.OK {
					y.Imm = int64(chance.Intn(4096)) - 2048
				}
				b = uint64(y.Imm)
			}
			w, e := inst.Encode(y)
			if e != api.OK {
				t.Fatalf("%+v: %d", y, e)
			}
			x.h.PC = start
			x.m.Store(start, 4, uint64(w))
			want := x.h.X
			if y.Rd != 0 {
				want[y.Rd], _ = alu.Do(op, a, b)
				if two {
					want[y.Rd], _ = mul.Do(op, a, b)
				}
			}
			x.h.Step()
			if x.h.X != want || x.h.PC != start+4 {
				t.Fatalf("%s of %#x and %#x: x%d is %#x, not %#x; PC %#x", inst.Name(op), a, b, y.Rd, x.h.X[y.Rd], want[y.Rd], x.h.PC)
			}
		}
	}
	if ops != 28+13 {
		t.Errorf("%d operations", ops)
	}
}

// P22.3: fence and fence.i do nothing, whatever stands in their words; Rd is not set.
func TestFences(t *testing.T) {
	for _, line := range []string{"fence x0,x0,0", "fence x0,x0,255", "fence x5,x6,4095", "fence.i x0,x0,0", "fence.i x7,x8,4095"} {
		for _, mode := range []api.Mode{0, 1, 3} {
			x := fresh(t)
			x.h.CSR.Mode = mode
			x.does(t, line, nil)
		}
	}
}
