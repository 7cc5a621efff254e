package asm

import (
	"math"
	"math/rand"
	"slices"
	"strings"
	"testing"

	"vireo/api"
	"vireo/inst"
)

// P4.3

func TestProgram(t *testing.T) {
	for _, c := range []struct {
		lines []string
		want  []uint32
	}{
		{nil, nil},
		{[]string{}, nil},
		{[]string{""}, nil},
		{[]string{"", " ", "\t", " \t \t"}, nil},
		{[]string{"addi x1,x0,1"}, []uint32{0x00100093}},
		{[]string{"ecall"}, []uint32{0x00000073}},
		{[]string{"addi x1,x0,1", "ecall"}, []uint32{0x00100093, 0x00000073}},
		{[]string{"ecall", "addi x1,x0,1"}, []uint32{0x00000073, 0x00100093}},
		{[]string{"ecall", "ecall", "ecall"}, []uint32{0x73, 0x73, 0x73}},
		{[]string{"", " addi x1 , x0 , 0x1", "\t", "  ", "\tecall ", ""}, []uint32{0x00100093, 0x00000073}},
		{[]string{"addi x31,x31,-1", "sd x1,8(x2)", "amoadd.w.aqrl x5,x6,(x7)", "csrrs x10,0xf14,x0"}, []uint32{0xffff8f93, 0x00113423, 0x0663a2af, 0xf1402573}},
	} {
		if got, e, n := Program(c.lines...); e != api.OK || n != 0 || !slices.Equal(got, c.want) {
			t.Errorf("Program(%q): %08x, %d, %d; not %08x", c.lines, got, e, n, c.want)
		}
	}
}

func TestProgramThatIsNone(t *testing.T) {
	for _, c := range []struct {
		lines []string
		n     int
	}{
		{[]string{"nop"}, 0},
		{[]string{"addi x1,x2"}, 0},
		{[]string{"nop", "ecall", "nop"}, 0},
		{[]string{"add x1,x2,x3", "", "add x1"}, 2},
		{[]string{"", " ", "\t\t", "nop"}, 3},
		{[]string{"ecall", "ecall", "nop", "ecall", "nop", "nop"}, 2},
		{[]string{"ecall", "addi x1,x0,2048", "nop"}, 1},
		{[]string{"ecall", "\n"}, 1},
		{[]string{"ecall", "\r", "nop"}, 1},
		{[]string{"ecall", "ecall\n"}, 1},
		{[]string{"ecall", "", "\u00a0"}, 2},
		{[]string{"ecall\necall"}, 0},
		{[]string{"ecall", "ecall", "0x00000073"}, 2},
		{append(slices.Repeat([]string{"ecall", ""}, 3000), "x"), 6000},
	} {
		if got, e, n := Program(c.lines...); e != api.ErrText || n != c.n || len(got) != 0 {
			t.Errorf("Program(%q): %08x, %d, %d; not %d", c.lines, got, e, n, c.n)
		}
	}
}

// P4.3: each line's word is that of its instruction.
func TestProgramOfEveryOperation(t *testing.T) {
	var lines []string
	var want []uint32
	for _, r := range slices.Concat(rows, ends) {
		w, e := inst.Encode(r.x)
		if e != api.OK {
			t.Fatalf("%+v isn't right", r.x)
		}
		lines, want = append(lines, r.s, ""), append(want, w)
		if got, e, n := Program(r.s); e != api.OK || n != 0 || !slices.Equal(got, []uint32{w}) {
			t.Errorf("Program(%q): %08x, %d, %d; not %08x", r.s, got, e, n, w)
		}
	}
	if got, e, n := Program(lines...); e != api.OK || n != 0 || !slices.Equal(got, want) {
		t.Errorf("Program of all: %08x, %d, %d", got, e, n)
	}
}

func TestBytes(t *testing.T) {
	for _, c := range []struct {
		words []uint32
		want  []byte
	}{
		{nil, nil},
		{[]uint32{}, nil},
		{[]uint32{0}, []byte{0, 0, 0, 0}},
		{[]uint32{0x12345678}, []byte{0x78, 0x56, 0x34, 0x12}},
		{[]uint32{0xfedcba98}, []byte{0x98, 0xba, 0xdc, 0xfe}},
		{[]uint32{1, 0, math.MaxUint32, 0x00100093}, []byte{1, 0, 0, 0, 0, 0, 0, 0, 0xff, 0xff, 0xff, 0xff, 0x93, 0x00, 0x10, 0x00}},
	} {
		if got := Bytes(c.words...); !slices.Equal(got, c.want) {
			t.Errorf("Bytes(%08x): % x, not % x", c.words, got, c.want)
		}
	}
	many := Bytes(slices.Repeat([]uint32{0x04030201}, 5000)...)
	if len(many) != 20000 || !slices.Equal(many[19996:], []byte{1, 2, 3, 4}) {
		t.Errorf("Bytes of 5000: %d of them", len(many))
	}
}

func TestList(t *testing.T) {
	for _, c := range []struct {
		words []uint32
		want  []string
	}{
		{nil, nil},
		{[]uint32{}, nil},
		{[]uint32{0x00100093}, []string{"addi x1,x0,1"}},
		{[]uint32{0}, []string{"0x0"}},
		{[]uint32{math.MaxUint32}, []string{"0xffffffff"}},
		{[]uint32{0x00000073, 0x00000001, 0x00c12503, 0x80000000, 0x04051513, 0x30200073}, []string{"ecall", "0x1", "lw x10,12(x2)", "0x80000000", "0x4051513", "mret"}},
		{[]uint32{0x0463a2af, 0x1005b52f, 0xf1402573, 0x30045073, 0xfe000ee3}, []string{"amoadd.w.aq x5,x6,(x7)", "lr.d x10,(x11)", "csrrs x10,0xf14,x0", "csrrwi x0,0x300,8", "beq x0,x0,-4"}},
		{[]uint32{0x12000073, 0xfffff0b7, 0x0ff0000f, 0x0000100f}, []string{"sfence.vma x0,x0", "lui x1,-1", "fence x0,x0,255", "fence.i x0,x0,0"}},
	} {
		if got := List(c.words...); !slices.Equal(got, c.want) {
			t.Errorf("List(%08x): %q, not %q", c.words, got, c.want)
		}
	}
}

// P4.3 and P4.4: words by chance: of instructions their texts, which lead back; of others their digits, which don't.
func TestThereAndBack(t *testing.T) {
	chance := rand.New(rand.NewSource(6))
	m := newModel()
	var all, words []uint32
	for range 50000 {
		w := chance.Uint32()
		if chance.Intn(3) > 0 {
			base, _ := inst.Encode(api.Instr{Op: 1 + chance.Intn(api.LastOp)})
			w = base | w&0xfff<<7&^0x7000 | w&0x01f00000
		}
		all = append(all, w)
		text := List(w)
		if len(text) != 1 {
			t.Fatalf("List(%08x): %q", w, text)
		}
		x, e := inst.Decode(w)
		if e != api.OK {
			if got, e, _ := Program(text...); e != api.ErrText || len(got) != 0 || !strings.HasPrefix(text[0], "0x") {
				t.Fatalf("List(%08x): %q, which is %08x, %d", w, text, got, e)
			}
			continue
		}
		if y, is := m.parse(text[0]); !is || y != x {
			t.Fatalf("List(%08x): %q, not of %+v", w, text, x)
		}
		words = append(words, w)
	}
	if len(words) < 10000 || len(words) == len(all) {
		t.Fatalf("%d instructions of %d words", len(words), len(all))
	}
	if got, e, n := Program(List(words...)...); e != api.OK || n != 0 || !slices.Equal(got, words) {
		t.Errorf("Program of List: %d, %d", e, n)
	}
	if got := List(all...); len(got) != len(all) {
		t.Errorf("List of %d words: %d", len(all), len(got))
	}
}
