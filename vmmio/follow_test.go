package vmmio

import (
	"math/rand"
	"testing"
)

// P18.6: no write of 4 bytes but one of 0 to Status clears NeedsReset, at no place, nor does any other call but Reset.
func TestNeedsResetStays(t *testing.T) {
	m, r := working(t, indirect|eventIdx, 2)
	give(m, r.Queues[0], 5)
	give(m, r.Queues[1], 6)
	r.Break()
	for at := uint64(0); at < 4096; at += 4 {
		for _, w := range words {
			x := copied(r)
			x.Store(m, at, 4, w)
			if cleared := at == 0x70 && w%version1 == 0; (x.Bits&64 == 0) != cleared {
				t.Fatalf("a write of %#x at %#x: Status %d", w, at, x.Bits)
			}
			if x.Bits&64 > 0 {
				silent(t, m, x, 0)
				silent(t, m, x, 1)
			}
		}
	}
	for i := range 32 {
		x := copied(r)
		drive(t, m, x, [2]uint64{0x70, 1 << i})
		if x.Bits != 79 && x.Bits != 79|128 {
			t.Fatalf("a write of bit %d to Status: %d", i, x.Bits)
		}
	}
	x := copied(r)
	for _, do := range []func(){
		func() { x.Raise(3) }, func() { x.Break() }, func() { x.Tell(1, 2) }, func() { x.Serve(m, 0, &player{}) },
		func() { x.Load(0x70, 4) }, func() { x.Has(ones) }, func() { x.Live() }, func() { x.Line() },
	} {
		do()
		if x.Bits != 79 {
			t.Fatalf("Status: %d", x.Bits)
		}
	}
	x.Reset()
	if x.Bits != 0 {
		t.Errorf("Status behind Reset: %d", x.Bits)
	}
}

// P18.6, P18.7: behind any accesses and calls, from the beginning on: NeedsReset stays till it may be cleared, nothing is served while it is set, and what is agreed on while FeaturesOK is set may be.
func TestWhatFollows(t *testing.T) {
	chance := rand.New(rand.NewSource(4))
	broken, settledSome, asks, cleared := 0, 0, 0, 0
	for range 300 {
		m, r := made(t), New(3, []uint64{0, indirect, eventIdx, indirect | eventIdx, 1}[chance.Intn(5)], 3)
		for i := range r.Queues {
			give(m, queueAt(i), uint32(1+i), 3)
		}
		for range 300 {
			was, zeroed := r.Bits&64 > 0, false
			p := &player{}
			switch chance.Intn(20) {
			case 0:
				r.Tell(byte(chance.Intn(9)))
			case 1:
				r.Raise(uint32(chance.Intn(4)))
			case 2:
				if chance.Intn(10) == 0 {
					r.Break()
				}
			case 3, 4:
				n := chance.Intn(4)
				if n < 3 && chance.Intn(4) == 0 {
					give(m, queueAt(n), 0)
				}
				r.Serve(m, n, p)
			case 5:
				if zeroed = chance.Intn(10) == 0; zeroed {
					r.Reset()
				}
			case 6:
				if chance.Intn(4) == 0 {
					drive(t, m, r, [2]uint64{0x24, 0}, [2]uint64{0x20, r.Offered % version1}, [2]uint64{0x24, 1}, [2]uint64{0x20, 1}, [2]uint64{0x70, 15})
				}
			case 7, 8:
				if r.Bits&8 > 0 {
					n := chance.Intn(3)
					drive(t, m, r, [2]uint64{0x30, uint64(n)}, [2]uint64{0x44, 0})
					m.Store(layout(n).Avail+2, 2, 0)
					give(m, queueAt(n), uint32(1+n), 3)
					lays(t, m, r, n, layout(n))
				}
			case 9:
				at, w := somePlace(chance), someWord(chance)
				what, _, _ := r.Store(m, at, someWidth(chance), w)
				zeroed = what == 1
			default:
				at, w := somePair(chance)
				what, _, _ := r.Store(m, at, 4, w)
				if zeroed = at == 0x70 && w == 0; zeroed != (what == 1) {
					t.Fatalf("a write of %#x at %#x asks for %d", w, at, what)
				}
			}
			if was && (r.Bits&64 == 0) != zeroed {
				t.Fatalf("Status %#x behind NeedsReset", r.Bits)
			}
			if was && len(p.chains) > 0 {
				t.Fatalf("served with NeedsReset set")
			}
			if r.Bits&8 > 0 {
				settledSome++
				if !settled(r) {
					t.Fatalf("agreed on %#x, of %#x that was offered", r.Agreed, r.Offered)
				}
			}
			if r.Bits&12 == 4 {
				t.Fatalf("DriverOK without FeaturesOK: %#x", r.Bits)
			}
			if was {
				broken++
				if zeroed {
					cleared++
				}
			}
			asks += len(p.chains)
		}
	}
	if broken < 10000 || settledSome < 10000 || asks < 300 || cleared < 100 {
		t.Errorf("broken %d times, settled %d, asked %d, cleared %d", broken, settledSome, asks, cleared)
	}
}

// P18.7: what was agreed on can't be changed, by any access, while FeaturesOK is set.
func TestAgreedStays(t *testing.T) {
	m := made(t)
	for sel := range uint32(3) {
		for _, bits := range []uint32{8, 11, 15, 79} {
			before := with(begun(t, 6, 1), func(r *Regs) { r.DrvSel, r.Bits = sel, bits })
			for at := uint64(0); at < 4096; at += 4 {
				for _, w := range words {
					r := copied(before)
					if what, _, _ := r.Store(m, at, 4, w); what != 1 && (r.Agreed != before.Agreed || r.Offered != before.Offered) {
						t.Fatalf("a write of %#x at %#x: %#x is agreed on", w, at, r.Agreed)
					}
				}
			}
		}
	}
}
