package amo

import (
	"math"
	"math/rand"
	"testing"

	"vireo/api"
)

type answers struct {
	wide, reserves, conditional bool
	made                        uint64
	ok                          bool
	old                         uint64
	set, left                   Set
	holds                       bool
}

func ask(op int, a, b uint64, n int) answers {
	w, ok := New(op, a, b)
	s := Reserve(a, n)
	return answers{
		wide: Wide(op), reserves: Reserves(op), conditional: Conditional(op), made: w, ok: ok, old: Old(op, a),
		set: s, left: s.Broken(b, uint64(n)), holds: s.Holds(b, n) || s.Holds(a, n),
	}
}

// P1: every call ends, and none panics, at any operation, any words and any length; rule 2: beside false the word is 0.
func TestAnyArgument(t *testing.T) {
	chance := rand.New(rand.NewSource(1))
	for range 200000 {
		op := chance.Intn(api.LastOp+40) - 20
		if chance.Intn(4) == 0 {
			op = int(chance.Uint64())
		}
		a, b, n := chance.Uint64(), chance.Uint64(), int(chance.Uint64()>>chance.Intn(64))
		if got := ask(op, a, b, n); !got.ok && got.made != 0 {
			t.Fatalf("New(%d, %#x, %#x): %#x beside false", op, a, b, got.made)
		}
	}
}

// P1: a length below 0 is none that a piece has: what Reserve tells of it is free, but nothing is held by it.
func TestLengthBelowNought(t *testing.T) {
	for _, n := range []int{-1, -8, math.MinInt32, math.MinInt} {
		if Reserve(16, n).Holds(16, n) {
			t.Errorf("a piece of %d bytes is held", n)
		}
	}
}

// P2: an answer hangs on its arguments alone, and not on what was asked ahead of it; a Set that is asked stays as it is.
func TestAnswersStay(t *testing.T) {
	const a, b = 0xfedcba9880000001, 0x8000000000000021
	ops := others()
	var first []answers
	for _, op := range ops {
		first = append(first, ask(op, a, b, 8))
	}
	for i := len(ops) - 1; i >= 0; i-- {
		ask(ops[i], b, a, 4)
		if again := ask(ops[i], a, b, 8); again != first[i] {
			t.Errorf("%d: %+v, then %+v", ops[i], first[i], again)
		}
	}
	s := Reserve(16, 8)
	if s.Broken(16, 8); s != (Set{At: 16, Len: 8}) || !s.Holds(16, 8) {
		t.Errorf("the set that was asked is %+v", s)
	}
}

// P7.2 once more: words by chance, of all lengths, held against the model.
func TestNewByChance(t *testing.T) {
	chance := rand.New(rand.NewSource(2))
	for _, r := range rows {
		for range 3000 {
			old, reg := chance.Uint64()>>chance.Intn(64), chance.Uint64()>>chance.Intn(64)
			if chance.Intn(2) == 0 {
				reg = -reg
			}
			if w, ok := New(r.op, old, reg); !ok || w != r.want(old, reg) {
				t.Fatalf("%s of %#x and %#x: %#x, %v, not %#x", r.name, old, reg, w, ok, r.want(old, reg))
			}
		}
	}
}
