package plic

import (
	"math/rand"
	"testing"
)

// P1: every call ends and none panics, whatever it is given; rule 2: beside false the word is 0; rule 3: nothing changed then.
func TestAnyArgument(t *testing.T) {
	chance := rand.New(rand.NewSource(1))
	number := func() int {
		n := int(chance.Uint64() >> chance.Intn(64))
		if chance.Intn(2) == 0 {
			return -n
		}
		return n
	}
	for range 100000 {
		p := someState(chance)
		at, n, w := chance.Uint64()>>chance.Intn(64), number(), chance.Uint64()
		if chance.Intn(2) == 0 {
			at = somePlace(chance)
		}
		before := p
		if got, ok := p.Load(at, n); !ok && (got != 0 || p != before) {
			t.Fatalf("Load(%#x, %d): %#x beside false; %+v became %+v", at, n, got, before, p)
		}
		before = p
		if ok := p.Store(at, n, w); !ok && p != before {
			t.Fatalf("Store(%#x, %d, %#x): false, but %+v became %+v", at, n, w, before, p)
		}
		p.Line(number(), chance.Intn(2) == 0)
		if n := p.Take(number()); n < 0 || n > 31 {
			t.Fatalf("Take: %d", n)
		}
		p.Done(number(), number())
		if w := p.Lines(); w&^0xa00 != 0 {
			t.Fatalf("Lines: %#x", w)
		}
	}
}

// P1: whatever stands in the fields, which anyone may write.
func TestAnyState(t *testing.T) {
	chance := rand.New(rand.NewSource(7))
	for range 20000 {
		p := Plic{High: chance.Uint32(), Waits: chance.Uint32(), Serving: chance.Uint32()}
		for i := range p.Prio {
			p.Prio[i] = chance.Uint32() >> chance.Intn(32)
		}
		for c := range p.Lets {
			p.Lets[c], p.Least[c] = chance.Uint32(), chance.Uint32()>>chance.Intn(32)
		}
		p.Lines()
		p.Line(someNumber(chance), chance.Intn(2) == 0)
		p.Done(someContext(chance), someNumber(chance))
		p.Load(somePlace(chance), 4)
		p.Store(somePlace(chance), 4, someWord(chance))
		if n := p.Take(someContext(chance)); n < 0 || n > 31 {
			t.Fatalf("Take: %d", n)
		}
	}
}

// The zero Plic is as it begins: nothing is held up, claimed or told.
func TestBegin(t *testing.T) {
	lines(t, Plic{}, 0)
	for at := uint64(0); at < 0x3000; at += 4 {
		loads(t, Plic{}, at, 4, 0, true, Plic{})
		loads(t, Plic{}, 0x1ff000+at, 4, 0, true, Plic{})
	}
}

// P2: what is called on one is nothing to another, nor to a copy of it.
func TestEachOfItsOwn(t *testing.T) {
	a, b := let(1), &Plic{}
	a.Line(1, true)
	if *b != (Plic{}) {
		t.Errorf("the other is %+v", *b)
	}
	kept := *a
	a.Take(0)
	a.Store(4, 4, 5)
	a.Store(Enable, 4, 0)
	a.Store(Threshold, 4, 3)
	again := let(1)
	again.Line(1, true)
	if kept != *again {
		t.Errorf("the copy is %+v, not %+v", kept, *again)
	}
}

// P2: a walk of all calls, held against the model step by step; what is told hangs on what was called alone, so a second one tells the same.
func TestWalkByModel(t *testing.T) {
	chance := rand.New(rand.NewSource(5))
	claims := 0
	for range 20 {
		a, b, m := &Plic{}, &Plic{}, &model{}
		for range 2000 {
			c, n, high := someContext(chance), someNumber(chance), chance.Intn(3) > 0
			at, size, w := somePlace(chance), someBytes(chance), someWord(chance)
			if at == Enable || at == Enable+EnableBy {
				w = uint64(chance.Uint32() | chance.Uint32())
			}
			var gotA, gotB, want uint64
			var okA, okB, may bool
			switch chance.Intn(5) {
			case 0:
				a.Line(n, high)
				b.Line(n, high)
				m.line(n, high)
			case 1:
				gotA, gotB, want = uint64(a.Take(c)), uint64(b.Take(c)), uint64(m.take(c))
			case 2:
				a.Done(c, n)
				b.Done(c, n)
				m.done(c, n)
			case 3:
				gotA, okA = a.Load(at, size)
				gotB, okB = b.Load(at, size)
				want, may = m.load(at, size)
			case 4:
				okA, okB, may = a.Store(at, size, w), b.Store(at, size, w), m.store(at, size, w)
			}
			if gotA != want || gotB != want || okA != may || okB != may {
				t.Fatalf("%d %v, %d %v, not %d %v", gotA, okA, gotB, okB, want, may)
			}
			if *a != m.plic() || *b != *a || a.Lines() != m.lines() || b.Lines() != a.Lines() {
				t.Fatalf("%+v and %+v, not %+v", *a, *b, m.plic())
			}
			if a.Serving != 0 {
				claims++
			}
		}
	}
	if claims < 5000 {
		t.Errorf("only at %d steps is a source being served", claims)
	}
}

// 0 is no source, though somebody set its bits and its priority by hand: it is neither first, nor waits, nor is done with; its priority is told.
func TestNumberOfNone(t *testing.T) {
	p := Plic{High: 1, Waits: 1, Serving: 1, Lets: [2]uint32{1, 1}}
	p.Prio[0] = 7
	for c := range 2 {
		takes(t, p, c, 0, p)
		doneMakes(t, p, c, 0, p)
		stores(t, p, Claim+ContextBy*uint64(c), 4, 0, true, p)
	}
	lines(t, p, 0)
	loads(t, p, Priority, 4, 7, true, p)
	stores(t, p, Priority, 4, 3, true, p)
	lineMakes(t, Plic{High: 1}, 2, true, Plic{High: 1 | 1<<2, Waits: 1 << 2})
}
