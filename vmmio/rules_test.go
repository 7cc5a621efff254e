package vmmio

import (
	"math"
	"math/rand"
	"slices"
	"testing"

	"vireo/api"
	"vireo/chain"
	"vireo/ram"
)

// P1: every call ends and none panics, at any arguments, whatever stands in the registers, in the memory, or in none; rule 3: what is refused changes nothing.
func TestAnyArgument(t *testing.T) {
	chance := rand.New(rand.NewSource(5))
	number := func() int {
		n := int(chance.Uint64() >> chance.Intn(64))
		if chance.Intn(2) == 0 {
			return -n
		}
		return n
	}
	row := make([]byte, size)
	m := made(t)
	for i := range 40000 {
		if i%1000 == 0 {
			chance.Read(row)
			m.Write(base, row)
		}
		r := someRegs(chance)
		memory := []*ram.RAM{m, nil}[chance.Intn(2)]
		at, n, w := somePlace(chance), someWidth(chance), someWord(chance)
		if chance.Intn(3) == 0 {
			at, n, w = chance.Uint64(), number(), chance.Uint64()
		}
		before := copied(r)
		if got, ok := r.Load(at, n); !ok && got != 0 {
			t.Fatalf("Load(%#x, %d): %#x beside false", at, n, got)
		}
		is(t, r, before)
		if what, of, ok := r.Store(memory, at, n, w); !ok {
			if what != 0 || of != 0 {
				t.Fatalf("Store(%#x, %d, %#x): %d, %d beside false", at, n, w, what, of)
			}
			is(t, r, before)
		}
		r.Has(chance.Uint64())
		r.Live()
		r.Line()
		r.Raise(chance.Uint32() >> chance.Intn(32))
		r.Serve(memory, []int{number(), chance.Intn(4)}[chance.Intn(2)], &player{does: func(n int, _ chain.Chain) (uint32, bool) { return chance.Uint32(), n < 9 }})
		r.Tell(row[:chance.Intn(30)]...)
		if chance.Intn(2) == 0 {
			r.Break()
		}
		r.Reset()
		New(chance.Uint32(), chance.Uint64(), number(), row[:chance.Intn(30)]...)
	}
}

// P1: no device, and one that panics, can't have a chain; those ahead of it are told.
func TestDevicesThatPanic(t *testing.T) {
	m, r := working(t, 0, 1)
	give(m, r.Queues[0], 5, 6, 7)
	want := copied(r)
	r.Serve(m, 0, nil)
	is(t, r, want)
	var none *player
	r.Serve(m, 0, none)
	is(t, r, want)
	serves(t, m, r, 0, &player{does: func(n int, _ chain.Chain) (uint32, bool) {
		if n == 1 {
			panic("it can't")
		}
		return 1, true
	}}, 1, 15, 5, 6)
	used(t, m, r.Queues[0], 1)
	serves(t, m, r, 0, &player{}, 1, 15, 6, 7)
	used(t, m, r.Queues[0], 3)
}

// P1: of no registers nothing is told, and nothing is served.
func TestNoRegisters(t *testing.T) {
	m := filled(t)
	row := string(all(t, m))
	var r *Regs
	r.Reset()
	r.Raise(3)
	r.Break()
	r.Tell(1, 2)
	for _, n := range []int{math.MinInt, -1, 0, 1, math.MaxInt} {
		r.Serve(m, n, &player{does: func(int, chain.Chain) (uint32, bool) {
			t.Errorf("a device is asked")
			return 0, true
		}})
	}
	if r.Has(ones) || r.Live() || r.Line() {
		t.Errorf("something is told of no registers")
	}
	for at := uint64(0); at < 0x1010; at += 4 {
		if w, ok := r.Load(at, 4); w != 0 || ok {
			t.Errorf("Load(%#x): %d, %v", at, w, ok)
		}
		if what, of, ok := r.Store(m, at, 4, 0); what != 0 || of != 0 || ok {
			t.Errorf("Store(%#x): %d, %d, %v", at, what, of, ok)
		}
	}
	if string(all(t, m)) != row {
		t.Errorf("the memory is another one")
	}
}

// P1: registers made by hand, without anything.
func TestZeroRegisters(t *testing.T) {
	m := made(t)
	makes(t, &Regs{}, (*Regs).Reset, &Regs{})
	makes(t, &Regs{}, func(r *Regs) { r.Serve(m, 0, &player{}) }, &Regs{})
	makes(t, &Regs{Bits: 4}, func(r *Regs) { r.Serve(m, 0, &player{}) }, &Regs{Bits: 4})
	makes(t, &Regs{}, (*Regs).Break, &Regs{Bits: api.NeedsReset})
	makes(t, &Regs{}, func(r *Regs) { r.Tell() }, &Regs{Gen: 1})
	for at := uint64(0); at < 4096; at += 4 {
		for _, w := range words {
			asModel(t, m, &Regs{}, at, 4, w)
		}
	}
}

// P2, rule 4: the space that is handed in is neither changed nor kept, with its spare room.
func TestSpaceIsCopied(t *testing.T) {
	list := []byte{1, 2, 3, 4, 5}
	r := New(1, 0, 0, list[:3]...)
	holds := func(want uint64) {
		t.Helper()
		loads(t, r, 0x100, 8, want, true)
	}
	list[0], list[3] = 9, 9
	holds(0x030201)
	r.Space = append(r.Space, 7)
	r.Space[1] = 8
	if !slices.Equal(list, []byte{9, 2, 3, 9, 5}) {
		t.Fatalf("what was handed in is %v", list)
	}
	holds(0x07030801)
	r.Tell(list[:4]...)
	list[1], list[4] = 6, 6
	holds(0x09030209)
	r.Space = append(r.Space, 7)
	r.Space[2] = 8
	if !slices.Equal(list, []byte{9, 6, 3, 9, 6}) {
		t.Fatalf("what was handed in is %v", list)
	}
	r.Tell()
	holds(0)
}

// P2, rule 4: registers are their own: what is called on one is nothing to another, made of the same.
func TestEachOfItsOwn(t *testing.T) {
	list := []byte{1, 2, 3}
	a, b := New(1, eventIdx, 2, list...), New(1, eventIdx, 2, list...)
	want := copied(b)
	m := made(t)
	drive(t, m, a, [2]uint64{0x24, 1}, [2]uint64{0x20, 1}, [2]uint64{0x14, 1}, [2]uint64{0x70, 15})
	lays(t, m, a, 1, layout(1))
	give(m, a.Queues[1], 3, 0)
	a.Serve(m, 1, &player{})
	a.Space[0] = 9
	a.Tell(7)
	is(t, b, want)
	a.Reset()
	is(t, b, want)
}

// P2, rule 4: what is told hangs on what was called alone: two walks of the same calls tell the same, and what the model says.
func TestWalksTellTheSame(t *testing.T) {
	chance := rand.New(rand.NewSource(6))
	for range 100 {
		m := made(t)
		for i := range 3 {
			give(m, queueAt(i), 4, 5, 0)
		}
		other := m.Copy()
		a, b := New(3, indirect|eventIdx, 3, 1, 2, 3), New(3, indirect|eventIdx, 3, 1, 2, 3)
		for range 200 {
			at, w := somePair(chance)
			n := 4
			if chance.Intn(4) == 0 {
				at, n, w = somePlace(chance), someWidth(chance), someWord(chance)
			}
			want, told := modelStore(m, a, at, n, w)
			what, of, ok := a.Store(m, at, n, w)
			if (asked{what, of, ok}) != told {
				t.Fatalf("Store(%#x, %d, %#x): %d, %d, %v, not %+v", at, n, w, what, of, ok, told)
			}
			is(t, a, want)
			b.Store(other, at, n, w)
			if what == Notify {
				a.Serve(m, of, &player{})
				b.Serve(other, of, &player{})
			}
			is(t, b, a)
			got, ok := a.Load(at, n)
			if again, too := b.Load(at, n); again != got || too != ok || a.Line() != b.Line() || a.Live() != b.Live() {
				t.Fatalf("Load(%#x, %d): %#x, %v, then %#x, %v", at, n, got, ok, again, too)
			}
			if !ram.Same(m, other) {
				t.Fatalf("two memories differ")
			}
		}
	}
}
