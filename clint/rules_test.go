package clint

import (
	"math/rand"
	"testing"
)

// P1: every call ends and none panics, whatever it is given; rule 2: beside false the word is 0; rule 3: nothing changed then.
func TestAnyArgument(t *testing.T) {
	chance := rand.New(rand.NewSource(1))
	for range 200000 {
		c := someState(chance)
		before := c
		at, n, w := chance.Uint64()>>chance.Intn(64), int(chance.Uint64()>>chance.Intn(64)), chance.Uint64()
		if chance.Intn(2) == 0 {
			at, n = somePlace(chance), -n
		}
		if got, ok := c.Load(at, n); !ok && got != 0 {
			t.Fatalf("Load(%#x, %d): %#x beside false", at, n, got)
		}
		if ok := c.Store(at, n, w); !ok && c != before {
			t.Fatalf("Store(%#x, %d, %#x): false, but %+v became %+v", at, n, w, before, c)
		}
		c.Tick(w)
		c.Lines()
	}
}

// P2: what is called on one is nothing to another, nor to a copy of it.
func TestEachOfItsOwn(t *testing.T) {
	a, b := Begin(), Begin()
	a.Store(Mtimecmp, 8, 7)
	a.Store(Msip, 4, 1)
	a.Tick(9)
	if b != (Clint{Cmp: ones}) || Begin() != b {
		t.Errorf("the other is %+v, a new one %+v", b, Begin())
	}
	kept := a
	a.Store(Mtime, 8, 0)
	a.Store(Msip, 8, 0)
	if kept != (Clint{Soft: true, Cmp: 7, Now: 9}) {
		t.Errorf("the copy is %+v", kept)
	}
}

// P2: a walk of all calls, held against the model step by step; what is told hangs on what was called alone, so a second one tells the same.
func TestWalkByModel(t *testing.T) {
	chance := rand.New(rand.NewSource(5))
	for range 20 {
		a, b, model := Begin(), Begin(), Clint{Cmp: ones}
		for range 2000 {
			at, n, w := somePlace(chance), someBytes(chance), chance.Uint64()>>chance.Intn(64)
			switch chance.Intn(3) {
			case 0:
				a.Tick(w)
				b.Tick(w)
				model.Now += w
			case 1:
				model, _ = modelStore(model, at, n, w)
				if okA, okB := a.Store(at, n, w), b.Store(at, n, w); okA != okB {
					t.Fatalf("Store(%#x, %d, %#x): %v and %v", at, n, w, okA, okB)
				}
			case 2:
				want, may := modelLoad(model, at, n)
				loads(t, a, at, n, want, may)
			}
			if a != model || b != model || a.Lines() != b.Lines() {
				t.Fatalf("%+v and %+v, not %+v", a, b, model)
			}
		}
	}
}
