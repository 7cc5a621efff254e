package mul

import (
	"math/rand"
	"testing"

	"vireo/api"
)

type answers struct {
	did               uint64
	ok                bool
	high, first, both uint64
}

func ask(op int, a, b uint64) answers {
	w, ok := Do(op, a, b)
	return answers{did: w, ok: ok, high: High(a, b), first: HighSigned(a, b, false), both: HighSigned(a, b, true)}
}

// P1: every call ends, and none panics, at any operation and any words; rule 2: beside false the word is 0.
func TestAnyArgument(t *testing.T) {
	chance := rand.New(rand.NewSource(1))
	for range 200000 {
		op := chance.Intn(api.LastOp+40) - 20
		if chance.Intn(4) == 0 {
			op = int(chance.Uint64())
		}
		a, b := chance.Uint64(), chance.Uint64()
		if chance.Intn(4) == 0 {
			b = []uint64{0, 1, ones, top, 0xffffffff, 1 << 32}[chance.Intn(6)]
		}
		if got := ask(op, a, b); !got.ok && got.did != 0 {
			t.Fatalf("Do(%d, %#x, %#x): %#x beside false", op, a, b, got.did)
		}
	}
}

// P2: an answer hangs on its arguments alone, and not on what was asked ahead of it.
func TestAnswersStay(t *testing.T) {
	const a, b = 0xfedcba9880000001, 0x8000000000000021
	ops := others()
	var first []answers
	for _, op := range ops {
		first = append(first, ask(op, a, b))
	}
	for i := len(ops) - 1; i >= 0; i-- {
		ask(ops[i], b, a)
		if again := ask(ops[i], a, b); again != first[i] {
			t.Errorf("%d: %+v, then %+v", ops[i], first[i], again)
		}
	}
}

// P6.2 once more: words by chance, of all lengths, held against the model.
func TestDoByChance(t *testing.T) {
	chance := rand.New(rand.NewSource(2))
	for _, r := range rows {
		for range 3000 {
			a, b := chance.Uint64()>>chance.Intn(64), chance.Uint64()>>chance.Intn(64)
			if chance.Intn(2) == 0 {
				b = -b
			}
			if w, ok := Do(r.op, a, b); !ok || w != r.want(a, b) {
				t.Fatalf("%s of %#x and %#x: %#x, %v, not %#x", r.name, a, b, w, ok, r.want(a, b))
			}
		}
	}
}
