package plic

import (
	"math/rand"
	"testing"
)

// full: sources 1, 5 and 31 with their lines high, of which none waits yet; 7 waits, its line being down; 9 is being served, its line high; both contexts let all.
func full() Plic {
	p := Plic{High: 1<<1 | 1<<5 | 1<<9 | 1<<31, Waits: 1 << 7, Serving: 1 << 9}
	for i := 1; i <= 31; i++ {
		p.Prio[i] = uint32(i%7 + 1)
	}
	p.Lets = [2]uint32{low - 1, low - 1}
	p.Least = [2]uint32{2, 5}
	return p
}

// P12.1: a line that goes up waits, at both ends of the numbers.
func TestLineUp(t *testing.T) {
	for n := 1; n <= 31; n++ {
		lineMakes(t, Plic{}, n, true, Plic{High: 1 << n, Waits: 1 << n})
		lineMakes(t, Plic{High: 1 << n, Waits: 1 << n}, n, true, Plic{High: 1 << n, Waits: 1 << n})
	}
}

// P12.1: it waits on, when its line goes down, whether it waits or is being served or neither.
func TestLineDown(t *testing.T) {
	for n := 1; n <= 31; n++ {
		lineMakes(t, Plic{High: 1 << n, Waits: 1 << n}, n, false, Plic{Waits: 1 << n})
		lineMakes(t, Plic{Waits: 1 << n}, n, false, Plic{Waits: 1 << n})
		lineMakes(t, Plic{High: 1 << n, Serving: 1 << n}, n, false, Plic{Serving: 1 << n})
		lineMakes(t, Plic{High: low - 1, Waits: low - 1}, n, false, Plic{High: low - 1 - 1<<n, Waits: low - 1})
		lineMakes(t, Plic{}, n, false, Plic{})
	}
}

// P12.1: a source that is being served doesn't wait, though its line goes up.
func TestLineOfServed(t *testing.T) {
	for n := 1; n <= 31; n++ {
		lineMakes(t, Plic{Serving: 1 << n}, n, true, Plic{High: 1 << n, Serving: 1 << n})
		lineMakes(t, Plic{High: 1 << n, Serving: 1 << n}, n, true, Plic{High: 1 << n, Serving: 1 << n})
	}
}

// P12.1: with one line that goes up every other that is high, and isn't being served, waits; with one that goes down none does.
func TestLineAndOthers(t *testing.T) {
	p := full()
	for n := 1; n <= 31; n++ {
		high := p.High | 1<<n
		lineMakes(t, p, n, true, with(p, func(p *Plic) {
			p.High = high
			p.Waits = (1<<7 | high) &^ (1 << 9)
		}))
		lineMakes(t, p, n, false, with(p, func(p *Plic) { p.High &^= 1 << n }))
	}
}

// P12.1: 0, 32 and all other numbers of no source, up or down: nothing, not even for others.
func TestLineOfNone(t *testing.T) {
	for _, n := range append([]int{0}, strange...) {
		for _, p := range []Plic{{}, full(), {High: low - 1}, {Waits: low - 1}} {
			lineMakes(t, p, n, true, p)
			lineMakes(t, p, n, false, p)
		}
	}
}

// one: source n with this priority waits, and both contexts let it.
func one(n int, prio uint32) Plic {
	p := Plic{Waits: 1 << n, Lets: [2]uint32{1 << n, 1 << n}}
	p.Prio[n] = prio
	return p
}

func served(p Plic, n int) Plic {
	p.Waits &^= 1 << n
	p.Serving |= 1 << n
	return p
}

// P12.1: with no source that waits.
func TestTakeNone(t *testing.T) {
	high := with(full(), func(p *Plic) { p.Waits = 0 })
	for c := range 2 {
		takes(t, Plic{}, c, 0, Plic{})
		takes(t, high, c, 0, high)
	}
}

// P12.1: the one that waits, of each number and each priority; not one of priority 0, nor one that the context doesn't let.
func TestTakeOne(t *testing.T) {
	for n := 1; n <= 31; n++ {
		for c := range 2 {
			for prio := uint32(1); prio <= 7; prio++ {
				p := one(n, prio)
				takes(t, p, c, n, served(p, n))
				p.High = 1 << n
				takes(t, p, c, n, served(p, n))
				p.Lets[1-c] = 0
				takes(t, p, c, n, served(p, n))
				takes(t, p, 1-c, 0, p)
			}
			takes(t, one(n, 0), c, 0, one(n, 0))
			others := with(one(n, 3), func(p *Plic) { p.Lets[c] = low - 1 - 1<<n })
			takes(t, others, c, 0, others)
		}
	}
}

// P12.1: Least holds nothing back that is claimed.
func TestTakeBelowLeast(t *testing.T) {
	for least := range uint32(8) {
		p := with(one(4, 3), func(p *Plic) { p.Least = [2]uint32{least, least} })
		takes(t, p, 0, 4, served(p, 4))
		takes(t, p, 1, 4, served(p, 4))
	}
}

// P12.1: of two that wait the greater priority comes first, of equal ones the least number.
func TestTakeOfTwo(t *testing.T) {
	for a := 1; a <= 31; a++ {
		for b := a + 1; b <= 31; b++ {
			for pa := range uint32(8) {
				for pb := range uint32(8) {
					p := Plic{Waits: 1<<a | 1<<b, Lets: [2]uint32{low - 1, low - 1}}
					p.Prio[a], p.Prio[b] = pa, pb
					want, then := a, served(p, a)
					if pb > pa {
						want, then = b, served(p, b)
					}
					if pa == 0 && pb == 0 {
						want, then = 0, p
					}
					takes(t, p, 0, want, then)
					takes(t, p, 1, want, then)
				}
			}
		}
	}
}

// P12.1: one after another, till none is left; what waits and is served behind each.
func TestTakeInOrder(t *testing.T) {
	p := Plic{Lets: [2]uint32{low - 1, 1<<2 | 1<<30}}
	for _, x := range []struct {
		n    int
		prio uint32
	}{{1, 1}, {2, 3}, {3, 7}, {12, 3}, {13, 0}, {30, 7}, {31, 1}} {
		p.Prio[x.n] = x.prio
		p.Line(x.n, true)
	}
	for _, x := range []struct {
		c, want        int
		waits, serving uint32
	}{
		{0, 3, 0xc0003006, 0x00000008},
		{1, 30, 0x80003006, 0x40000008},
		{0, 2, 0x80003002, 0x4000000c},
		{1, 0, 0x80003002, 0x4000000c},
		{0, 12, 0x80002002, 0x4000100c},
		{0, 1, 0x80002000, 0x4000100e},
		{0, 31, 0x00002000, 0xc000100e},
		{0, 0, 0x00002000, 0xc000100e},
		{1, 0, 0x00002000, 0xc000100e},
	} {
		takes(t, p, x.c, x.want, with(p, func(p *Plic) { p.Waits, p.Serving = x.waits, x.serving }))
		p.Take(x.c)
	}
}

// P12.1: numbers that are no context claim nothing.
func TestTakeOfNoContext(t *testing.T) {
	for _, c := range append([]int{2, 3, 7, 9, 11}, strange...) {
		for _, p := range []Plic{{}, full(), one(1, 7), one(31, 1)} {
			takes(t, p, c, 0, p)
		}
	}
}

// P12.1: of a source that the context lets, with its line high and not.
func TestDone(t *testing.T) {
	for n := 1; n <= 31; n++ {
		for c := range 2 {
			p := Plic{Serving: 1 << n}
			p.Lets[c] = 1 << n
			doneMakes(t, p, c, n, with(p, func(p *Plic) { p.Serving = 0 }))
			p.High = 1 << n
			doneMakes(t, p, c, n, with(p, func(p *Plic) { p.Serving, p.Waits = 0, 1<<n }))
			// Others that are being served stay so.
			p.Serving, p.High = low-1, low-1
			doneMakes(t, p, c, n, with(p, func(p *Plic) { p.Serving, p.Waits = low-1-1<<n, 1<<n }))
		}
	}
}

// P12.1: of a source that the context doesn't let: nothing, though the other one lets it.
func TestDoneNotLet(t *testing.T) {
	for n := 1; n <= 31; n++ {
		for c := range 2 {
			p := with(full(), func(p *Plic) {
				p.Serving = low - 1
				p.Lets[c] = low - 1 - 1<<n
			})
			doneMakes(t, p, c, n, p)
			doneMakes(t, p, 1-c, n, with(p, func(p *Plic) {
				p.Serving &^= 1 << n
				p.Waits |= p.High & (1 << n)
			}))
		}
	}
}

// P12.1: of a source that isn't being served those whose lines are high wait all the same.
func TestDoneOfNotServed(t *testing.T) {
	for n := 1; n <= 31; n++ {
		if n == 9 {
			continue
		}
		for c := range 2 {
			doneMakes(t, full(), c, n, with(full(), func(p *Plic) { p.Waits = 1<<1 | 1<<5 | 1<<7 | 1<<31 }))
			doneMakes(t, Plic{Lets: full().Lets}, c, n, Plic{Lets: full().Lets})
		}
	}
	for c := range 2 {
		doneMakes(t, full(), c, 9, with(full(), func(p *Plic) { p.Waits, p.Serving = 1<<1|1<<5|1<<7|1<<9|1<<31, 0 }))
	}
}

// P12.1: either context may be done with what the other one claimed, if it lets it.
func TestDoneByTheOther(t *testing.T) {
	p := one(6, 2)
	p.Take(0)
	doneMakes(t, p, 1, 6, with(p, func(p *Plic) { p.Serving = 0 }))
}

// P12.1: numbers that are no context and no source.
func TestDoneOfNone(t *testing.T) {
	for _, p := range []Plic{{}, full(), with(full(), func(p *Plic) { p.Serving = low - 1 })} {
		for _, c := range append([]int{2, 3, 9, 11}, strange...) {
			for _, n := range []int{-1, 0, 1, 5, 9, 31, 32} {
				doneMakes(t, p, c, n, p)
			}
		}
		for _, n := range append([]int{0}, strange...) {
			doneMakes(t, p, 0, n, p)
			doneMakes(t, p, 1, n, p)
		}
	}
}

// P12.1: with the first one's priority below Least, Least itself and above it, of one context and of both.
func TestLines(t *testing.T) {
	lines(t, Plic{}, 0)
	for n := 1; n <= 31; n++ {
		for prio := range uint32(8) {
			for least := range uint32(8) {
				up := prio > least
				p := one(n, prio)
				p.Least = [2]uint32{least, 7}
				lines(t, p, when(up, 0x800))
				p.Least = [2]uint32{7, least}
				lines(t, p, when(up, 0x200))
				p.Least = [2]uint32{least, least}
				lines(t, p, when(up, 0xa00))
				p.Lets = [2]uint32{1 << n, 0}
				lines(t, p, when(up, 0x800))
				p.Lets = [2]uint32{0, 1 << n}
				lines(t, p, when(up, 0x200))
				p.Lets = [2]uint32{}
				lines(t, p, 0)
			}
		}
	}
}

func when(is bool, w uint64) uint64 {
	if is {
		return w
	}
	return 0
}

// P12.1: what holds a line up is what waits: neither a high line nor one that is being served does.
func TestLinesOfWaitingAlone(t *testing.T) {
	p := one(3, 7)
	p.Waits, p.High = 0, 1<<3
	lines(t, p, 0)
	p.Serving = 1 << 3
	lines(t, p, 0)
	p.High, p.Serving, p.Waits = 0, 0, 1<<3
	lines(t, p, 0xa00)
}

// P12.1: the first one counts, which has the greatest priority of all that the context lets.
func TestLinesOfSeveral(t *testing.T) {
	p := Plic{Waits: 1<<2 | 1<<8 | 1<<20, Lets: [2]uint32{1<<2 | 1<<8, 1<<2 | 1<<20}, Least: [2]uint32{3, 3}}
	p.Prio[2], p.Prio[8], p.Prio[20] = 2, 4, 3
	lines(t, p, 0x800)
	p.Prio[20] = 4
	lines(t, p, 0xa00)
	p.Prio[8] = 3
	lines(t, p, 0x200)
	p.Prio[2] = 7
	lines(t, p, 0xa00)
	p.Waits = 1<<8 | 1<<20
	lines(t, p, 0x200)
}

// P12.1: states and numbers by chance, held against the model.
func TestSourcesByChance(t *testing.T) {
	chance := rand.New(rand.NewSource(2))
	came := 0
	for range 50000 {
		p := someState(chance)
		c, n, high := someContext(chance), someNumber(chance), chance.Intn(2) == 0
		lines(t, p, modelOf(p).lines())
		m := modelOf(p)
		m.line(n, high)
		lineMakes(t, p, n, high, m.plic())
		m = modelOf(p)
		want := m.take(c)
		takes(t, p, c, want, m.plic())
		if want > 0 {
			came++
		}
		m = modelOf(p)
		m.done(c, n)
		doneMakes(t, p, c, n, m.plic())
	}
	if came < 10000 {
		t.Errorf("only %d are claimed", came)
	}
}

// P12.1: the chapter's example.
func TestExample(t *testing.T) {
	var p Plic
	p.Store(Priority+4, 4, 1)
	p.Store(Enable, 4, 2)
	p.Line(1, true)
	lines(t, p, 0x800)
	if n := p.Take(0); n != 1 {
		t.Errorf("Take: %d", n)
	}
	lines(t, p, 0)
}
