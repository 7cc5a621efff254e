package plic

import (
	"math"
	"math/rand"
	"slices"
	"testing"
)

func TestPlaces(t *testing.T) {
	got := []int{Priority, Waiting, Enable, EnableBy, Threshold, Claim, ContextBy, Contexts}
	if want := []int{0, 0x1000, 0x2000, 0x80, 0x200000, 0x200004, 0x1000, 2}; !slices.Equal(got, want) {
		t.Errorf("%#x", got)
	}
}

var words = []uint64{0, 1, 2, 5, 7, 8, 9, 31, 32, 0x5a5a5a5a5a5a5a5a, low, low - 1, 1 << 32, low << 32, 1 << 63, ones - 1, ones}

func refused(t *testing.T, at uint64, n int) {
	t.Helper()
	for _, p := range []Plic{full(), {}} {
		loads(t, p, at, n, 0, false, p)
		for _, w := range words {
			stores(t, p, at, n, w, false, p)
		}
	}
}

// P12.2: with other numbers of bytes than 4 nothing is told, and nothing changes, wherever it is.
func TestOtherLengths(t *testing.T) {
	for _, n := range append([]int{0, 1, 2, 3, 5, 6, 7, 8, 12, 16, -3, -4, -8, 260, 65540, 1<<32 + 4, math.MinInt + 4, math.MaxInt - 3}, strange...) {
		for _, at := range []uint64{0, 1, 2, 4, 8, 0x7c, 0x80, 0x1000, 0x2000, 0x2080, 0x200000, 0x200004, 0x201000, 0x201004, end - 8, end - 4, end, ones - 7, ones - 3, ones} {
			refused(t, at, n)
		}
	}
}

// P12.2: at places that 4 doesn't divide.
func TestCrookedPlaces(t *testing.T) {
	for _, at := range []uint64{0, 4, 0x7c, 0x80, 0x1000, 0x2000, 0x2080, 0x200000, 0x200004, 0x201000, 0x201004, 0x300000, end - 4} {
		for i := uint64(1); i < 4; i++ {
			refused(t, at+i, 4)
		}
	}
}

// P12.2: there and beyond, up to the greatest word: nothing wraps, and no bit of the place is lost.
func TestBeyondTheEnd(t *testing.T) {
	for _, from := range []uint64{end, 2 * end, 1 << 24, 0x0c000000, 1 << 31, 1 << 32, 1 << 48, 1 << 63, ones - end + 1} {
		for _, at := range []uint64{0, 4, 0x7c, 0x1000, 0x2000, 0x2080, 0x200000, 0x200004, 0x201000, 0x201004, end - 4} {
			refused(t, from+at, 4)
		}
	}
	for i := range uint64(16) {
		refused(t, end+i, 4)
		refused(t, ones-i, 4)
	}
}

// P12.2: the last place below the end may be, and holds nothing.
func TestLastPlace(t *testing.T) {
	for _, w := range words {
		loads(t, full(), end-4, 4, 0, true, full())
		stores(t, full(), end-4, 4, w, true, full())
	}
}

// P12.2: of the sources 1 to 31 the 3 lowest bits count; nothing else changes.
func TestPriority(t *testing.T) {
	for n := 1; n <= 31; n++ {
		at := uint64(4 * n)
		loads(t, full(), at, 4, uint64(n%7+1), true, full())
		for _, w := range words {
			then := with(full(), func(p *Plic) { p.Prio[n] = uint32(w % 8) })
			stores(t, full(), at, 4, w, true, then)
			loads(t, then, at, 4, w%8, true, then)
		}
	}
}

// P12.2: Priority of 0 is told, and never written; right behind that of 31 there is none.
func TestPriorityOfNone(t *testing.T) {
	for _, p := range []Plic{full(), {}} {
		for _, at := range []uint64{0, 0x80, 0x84, 0x100, 0xffc} {
			for _, w := range words {
				loads(t, p, at, 4, 0, true, p)
				stores(t, p, at, 4, w, true, p)
			}
		}
	}
}

// P12.2: Waiting is told, and never written; it isn't claimed by that.
func TestWaiting(t *testing.T) {
	loads(t, full(), 0x1000, 4, 1<<7, true, full())
	all := with(full(), func(p *Plic) { p.Waits = low - 1 })
	loads(t, all, 0x1000, 4, low-1, true, all)
	// Neither high lines nor what is being served.
	other := Plic{High: low - 1, Serving: low - 1}
	loads(t, other, 0x1000, 4, 0, true, other)
	for _, w := range words {
		for _, p := range []Plic{full(), all, other, {}} {
			stores(t, p, 0x1000, 4, w, true, p)
			stores(t, p, 0x1004, 4, w, true, p)
			loads(t, p, 0x1004, 4, 0, true, p)
		}
	}
}

// P12.2: what a context lets is the 32 lowest bits without bit 0; the other one's stays.
func TestEnable(t *testing.T) {
	for c := range 2 {
		at := 0x2000 + uint64(c)*0x80
		p := with(full(), func(p *Plic) { p.Lets = [2]uint32{0x12345678, 0xfedcba98} })
		loads(t, p, at, 4, []uint64{0x12345678, 0xfedcba98}[c], true, p)
		for _, w := range words {
			then := with(p, func(p *Plic) { p.Lets[c] = uint32(w) - uint32(w%2) })
			stores(t, p, at, 4, w, true, then)
			loads(t, then, at, 4, uint64(uint32(w)-uint32(w%2)), true, then)
		}
		for n := 1; n <= 31; n++ {
			stores(t, p, at, 4, 1<<n, true, with(p, func(p *Plic) { p.Lets[c] = 1 << n }))
		}
	}
}

// P12.2: of Least the 3 lowest bits count; the other one's stays.
func TestThreshold(t *testing.T) {
	for c := range 2 {
		at := 0x200000 + uint64(c)*0x1000
		loads(t, full(), at, 4, []uint64{2, 5}[c], true, full())
		for _, w := range words {
			then := with(full(), func(p *Plic) { p.Least[c] = uint32(w % 8) })
			stores(t, full(), at, 4, w, true, then)
			loads(t, then, at, 4, w%8, true, then)
		}
	}
}

// P12.2: a load of Claim is Take of its context.
func TestClaimLoaded(t *testing.T) {
	for c := range 2 {
		at := 0x200004 + uint64(c)*0x1000
		loads(t, Plic{}, at, 4, 0, true, Plic{})
		loads(t, full(), at, 4, 7, true, served(full(), 7))
		for n := 1; n <= 31; n++ {
			p := one(n, 1)
			loads(t, p, at, 4, uint64(n), true, served(p, n))
			p.Lets[c] = 0
			loads(t, p, at, 4, 0, true, p)
		}
	}
}

// P12.2: a store to Claim is Done of its context and the number of the 32 lowest bits, if that is below 32.
func TestClaimStored(t *testing.T) {
	for c := range 2 {
		at := 0x200004 + uint64(c)*0x1000
		p := Plic{High: 1<<4 | 1<<31, Serving: low - 1}
		p.Lets[c] = low - 1 - 1<<6
		for n := range uint64(32) {
			then := p
			if n != 0 && n != 6 {
				then.Serving &^= 1 << n
				then.Waits = p.High & (1 << n)
			}
			for _, above := range []uint64{0, 1 << 32, 1 << 37, 1 << 63, low << 32} {
				stores(t, p, at, 4, n+above, true, then)
			}
			stores(t, p, 0x200004+uint64(1-c)*0x1000, 4, n, true, p)
		}
		for _, w := range []uint64{32, 33, 36, 63, 64, 68, 96, 255, 256, 257, 260, 1<<16 + 4, 1<<31 + 4, 1<<31 + 31, low - 1, low, 32 + 1<<32, ones - 27, ones} {
			stores(t, p, at, 4, w, true, p)
		}
	}
}

// P12.2: beside the registers of contexts, where a third context's would be, and between.
func TestBesideRegisters(t *testing.T) {
	for _, at := range []uint64{
		0x0ffc, 0x1004, 0x1080, 0x1ffc, 0x2004, 0x207c, 0x2084, 0x2100, 0x2180, 0x2ffc, 0x3000, 0x3080, 0x1ffffc,
		0x200008, 0x20000c, 0x200080, 0x200084, 0x200ffc, 0x201008, 0x201080, 0x201ffc, 0x202000, 0x202004, 0x203000, 0x203004, 0x300000, 0x300004,
	} {
		for _, w := range words {
			loads(t, full(), at, 4, 0, true, full())
			stores(t, full(), at, 4, w, true, full())
		}
	}
}

// P12.2: every place up to the end and a bit beyond: just the places that the chapter names tell something, and just those change something.
func TestEveryPlace(t *testing.T) {
	var told, made []uint64
	p := with(full(), func(p *Plic) { p.Serving = 1 << 31 })
	for at := range uint64(end + 64) {
		x := p
		got, ok := x.Load(at, 4)
		if may := at%4 == 0 && at < end; ok != may {
			t.Fatalf("Load at %#x: %v", at, ok)
		}
		if got != 0 {
			told = append(told, at)
		}
		if x != p && at != 0x200004 && at != 0x201004 {
			t.Fatalf("Load at %#x changes %+v to %+v", at, p, x)
		}
		x = p
		if ok := x.Store(at, 4, 31<<32); ok != (at%4 == 0 && at < end) {
			t.Fatalf("Store at %#x: %v", at, ok)
		}
		y := p
		if y.Store(at, 4, 31); x != p || y != p {
			made = append(made, at)
		}
	}
	named := []uint64{0x1000, 0x2000, 0x2080, 0x200000, 0x200004, 0x201000, 0x201004}
	for i := 31; i >= 1; i-- {
		named = append([]uint64{uint64(4 * i)}, named...)
	}
	if !slices.Equal(told, named) {
		t.Errorf("told: %#x", told)
	}
	if named = slices.DeleteFunc(named, func(at uint64) bool { return at == 0x1000 }); !slices.Equal(made, named) {
		t.Errorf("made: %#x", made)
	}
}

// P12.2: states, places, lengths and words by chance, held against the model.
func TestAccessByChance(t *testing.T) {
	chance := rand.New(rand.NewSource(4))
	came := 0
	for range 100000 {
		p, at, n, w := someState(chance), somePlace(chance), someBytes(chance), someWord(chance)
		m := modelOf(p)
		want, may := m.load(at, n)
		loads(t, p, at, n, want, may, m.plic())
		m = modelOf(p)
		may = m.store(at, n, w)
		stores(t, p, at, n, w, may, m.plic())
		if m.plic() != p {
			came++
		}
	}
	if came < 20000 {
		t.Errorf("only %d change something", came)
	}
}
