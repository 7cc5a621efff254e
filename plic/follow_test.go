package plic

import (
	"math/rand"
	"testing"
)

// let: a plic with this priority of all sources, which both contexts let.
func let(prio uint64) *Plic {
	p := &Plic{}
	for n := 1; n <= 31; n++ {
		p.Store(uint64(4*n), 4, prio)
	}
	p.Store(Enable, 4, ones)
	p.Store(Enable+EnableBy, 4, ones)
	return p
}

// P12.3: whatever its line does, and whichever context claims, a source that is being served isn't claimed again till it is done with.
func TestServedIsNotClaimed(t *testing.T) {
	for n := 1; n <= 31; n++ {
		for c := range 2 {
			p := let(3)
			p.Line(n, true)
			if got := p.Take(c); got != n {
				t.Fatalf("Take(%d): %d, not %d", c, got, n)
			}
			for _, high := range []bool{true, false, true, true, false, false, true} {
				p.Line(n, high)
				again, _ := p.Load(Claim, 4)
				if a, b := p.Take(0), p.Take(1); a != 0 || b != 0 || again != 0 || p.Lines() != 0 {
					t.Fatalf("%d is claimed again: %d, %d, %d, %#x", n, a, b, again, p.Lines())
				}
				// Another one is done with, which leaves it.
				p.Done(c, n%31+1)
			}
			p.Done(c, n)
			if got := p.Take(c); got != n {
				t.Fatalf("behind Done: %d, not %d", got, n)
			}
		}
	}
}

// P12.3: with changed priorities and with what is let changed meanwhile.
func TestServedWhileRegistersChange(t *testing.T) {
	p := let(1)
	p.Line(5, true)
	p.Take(0)
	p.Store(4*5, 4, 7)
	p.Store(Enable, 4, 0)
	p.Store(Enable, 4, ones)
	p.Store(Threshold, 4, 0)
	if a, b := p.Take(0), p.Take(1); a != 0 || b != 0 {
		t.Errorf("%d and %d", a, b)
	}
	// It isn't done with by one that doesn't let it.
	p.Store(Enable, 4, low-1<<5)
	p.Store(Claim, 4, 5)
	if n := p.Take(1); n != 0 {
		t.Errorf("%d", n)
	}
	p.Store(Claim+ContextBy, 4, 5)
	if n := p.Take(1); n != 5 {
		t.Errorf("%d, not 5", n)
	}
}

// P12.4: a line that is held up waits again behind Done; one that isn't doesn't.
func TestHeldUpWaitsAgain(t *testing.T) {
	for n := 1; n <= 31; n++ {
		for c := range 2 {
			p := let(2)
			p.Line(n, true)
			for range 3 {
				if got := p.Take(c); got != n || p.Waits != 0 {
					t.Fatalf("Take(%d): %d, not %d; Waits %#x", c, got, n, p.Waits)
				}
				if p.Done(c, n); p.Waits != 1<<n || p.Lines() != 0xa00 {
					t.Fatalf("%d behind Done: Waits %#x, Lines %#x", n, p.Waits, p.Lines())
				}
			}
			p.Take(c)
			p.Line(n, false)
			if p.Done(c, n); p.Waits != 0 || p.Lines() != 0 || p.Take(c) != 0 {
				t.Fatalf("%d with its line down: Waits %#x", n, p.Waits)
			}
		}
	}
}

// P12.4: a line that went up while its source was being served waits behind Done, too, and one that went up and down doesn't.
func TestLineWhileServed(t *testing.T) {
	p := let(2)
	p.Line(3, true)
	p.Take(0)
	p.Line(3, false)
	p.Line(3, true)
	if p.Waits != 0 {
		t.Errorf("Waits %#x", p.Waits)
	}
	if p.Done(0, 3); p.Waits != 1<<3 {
		t.Errorf("Waits %#x", p.Waits)
	}
	p.Line(3, false)
	p.Take(0)
	p.Line(3, true)
	p.Line(3, false)
	if p.Done(0, 3); p.Waits != 0 {
		t.Errorf("Waits %#x", p.Waits)
	}
}

// P12.3, P12.4: on a walk of all calls none is claimed that is being served, and none whose line is high is neither waiting nor being served.
func TestWalkKeepsThese(t *testing.T) {
	chance := rand.New(rand.NewSource(6))
	for range 20 {
		p := let(1)
		being := map[int]bool{}
		for range 3000 {
			c, n := chance.Intn(2), 1+chance.Intn(31)
			switch chance.Intn(5) {
			case 0:
				p.Line(n, chance.Intn(2) == 0)
			case 1:
				p.Store(4*uint64(n), 4, uint64(chance.Intn(8)))
			case 2:
				p.Store(Enable+EnableBy*uint64(c), 4, uint64(chance.Uint32()|chance.Uint32()))
			case 3:
				if p.Lets[c]>>n%2 == 1 {
					delete(being, n)
				}
				p.Store(Claim+ContextBy*uint64(c), 4, uint64(n))
			case 4:
				if got := p.Take(c); got != 0 {
					if being[got] {
						t.Fatalf("%d is claimed again", got)
					}
					being[got] = true
				}
			}
			if p.High&^p.Waits&^p.Serving != 0 || p.Waits&p.Serving != 0 {
				t.Fatalf("%+v", *p)
			}
		}
	}
}
