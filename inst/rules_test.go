package inst

import (
	"math"
	"math/rand"
	"testing"

	"vireo/api"
)

// wild: a number of any kind: small, about an edge, or any at all.
func wild(chance *rand.Rand) int64 {
	edges := []int64{0, 31, 63, 2047, 2048, 4094, 4095, 4096, 1 << 12, 1 << 13, 1 << 20, 1 << 31, 1 << 32, math.MaxInt64}
	switch chance.Intn(4) {
	case 0:
		return int64(chance.Uint64())
	case 1:
		return edges[chance.Intn(len(edges))] + int64(chance.Intn(7)) - 3
	case 2:
		return -edges[chance.Intn(len(edges))] + int64(chance.Intn(7)) - 3
	}
	return int64(chance.Intn(40))
}

// P1 and rule 2, and P3.1 once more: whatever the parts are, the calls end, and what is refused tells its error alone.
func TestAnyInstruction(t *testing.T) {
	chance := rand.New(rand.NewSource(1))
	for i := range 200000 {
		r := rows[i%len(rows)]
		l := layouts[r.form]
		x := cut(l, byChance(chance, r.op, l))
		for range chance.Intn(3) {
			switch chance.Intn(6) {
			case 0:
				x.Rd = int(wild(chance))
			case 1:
				x.Rs1 = int(wild(chance))
			case 2:
				x.Rs2 = int(wild(chance))
			case 3:
				x.CSR = int(wild(chance))
			case 4:
				x.Imm = wild(chance)
			case 5:
				x.Aq, x.Rl = !x.Aq, chance.Intn(2) == 1
			}
		}
		if !isRight(l, x) {
			refused(t, x)
			continue
		}
		if w, e := Encode(x); e != api.OK || w != wordOf(r, x) {
			t.Fatalf("Encode(%+v): %08x, %d", x, w, e)
		}
	}
}

// P1: numbers that are hardly operations.
func TestAnyOperation(t *testing.T) {
	chance := rand.New(rand.NewSource(2))
	for range 20000 {
		op := int(wild(chance))
		if api.Lui <= op && op <= api.LastOp {
			continue
		}
		if Name(op) != "" || Loads(op) || Stores(op) || Branches(op) || Atomics(op) || Systems(op) || Width(op) != 0 {
			t.Fatalf("%d is no operation", op)
		}
		refused(t, api.Instr{Op: op, Rd: int(wild(chance)), Imm: wild(chance)})
	}
}

// P2: an answer hangs on its argument alone, and not on what was asked ahead of it, refused or not.
func TestAnswersStay(t *testing.T) {
	type answers struct {
		name  string
		found int
		right api.Errno
		word  uint32
		e     api.Errno
		back  api.Instr
		width int
	}
	ask := func(op int) answers {
		x := api.Instr{Op: op}
		a := answers{name: Name(op), found: Find(Name(op)), right: Right(x), width: Width(op)}
		a.word, a.e = Encode(x)
		a.back, _ = Decode(a.word)
		return a
	}
	var first [api.LastOp + 2]answers
	for op := range first {
		first[op] = ask(op)
	}
	for op := len(first) - 1; op >= 0; op-- {
		Encode(api.Instr{Op: op, Rd: 32})
		Decode(uint32(op) << 7)
		if again := ask(op); again != first[op] {
			t.Errorf("%d: %+v, then %+v", op, first[op], again)
		}
	}
}
