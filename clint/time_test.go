package clint

import (
	"math/big"
	"math/rand"
	"testing"
)

// P11.1: each part of what it begins as, and that no line is held up.
func TestBegin(t *testing.T) {
	c := Begin()
	if c.Soft {
		t.Error("Soft")
	}
	if c.Cmp != ones {
		t.Errorf("Cmp: %#x", c.Cmp)
	}
	if c.Now != 0 {
		t.Errorf("Now: %#x", c.Now)
	}
	if c.Lines() != 0 {
		t.Errorf("Lines: %#x", c.Lines())
	}
}

// P11.1: by nothing, by some, and by so many that what is beyond 64 bits is lost; nothing else changes.
func TestTick(t *testing.T) {
	for _, c := range []struct{ now, n, want uint64 }{
		{0, 0, 0}, {0, 1, 1}, {0, 5, 5}, {5, 0, 5}, {5, 7, 12}, {low, 1, low + 1}, {low, low, 2 * low}, {0, top, top}, {0, ones, ones}, {top - 1, 1, top}, {ones - 1, 1, ones},
		{ones, 0, ones}, {ones, 1, 0}, {1, ones, 0}, {ones, 2, 1}, {top, top, 0}, {top, ones, top - 1}, {ones, ones, ones - 1}, {ones - 4, 10, 5},
	} {
		for _, soft := range []bool{false, true} {
			for _, cmp := range []uint64{0, c.now, c.want, ones} {
				got := Clint{Soft: soft, Cmp: cmp, Now: c.now}
				if got.Tick(c.n); got != (Clint{Soft: soft, Cmp: cmp, Now: c.want}) {
					t.Errorf("%+v: %+v", c, got)
				}
			}
		}
	}
}

// P11.1: many, held against numbers as great as one likes.
func TestTickByChance(t *testing.T) {
	chance := rand.New(rand.NewSource(3))
	c, sum := Begin(), new(big.Int)
	over := new(big.Int).Lsh(big.NewInt(1), 64)
	for range 2000 {
		n := chance.Uint64() >> chance.Intn(64)
		c.Tick(n)
		sum.Add(sum, new(big.Int).SetUint64(n))
		if want := new(big.Int).Mod(sum, over).Uint64(); c != (Clint{Cmp: ones, Now: want}) {
			t.Fatalf("behind %d more: %+v, not %#x", n, c, want)
		}
	}
}

// P11.1: with Soft and without, with Now below Cmp, Cmp itself and above it.
func TestLines(t *testing.T) {
	for _, x := range []struct {
		now, cmp uint64
		timer    uint64
	}{
		{0, 0, 0x80}, {0, 1, 0}, {1, 0, 0x80}, {1, 1, 0x80}, {4, 5, 0}, {5, 5, 0x80}, {6, 5, 0x80},
		{low, low + 1, 0}, {low + 1, low + 1, 0x80}, {low + 1, low, 0x80}, {low << 32, low, 0x80}, {low, low << 32, 0},
		// Neither is a number with a sign.
		{top - 1, top, 0}, {top, top, 0x80}, {top, top - 1, 0x80}, {0, top, 0}, {top, 0, 0x80}, {0, ones, 0}, {ones, 0, 0x80}, {top, ones, 0}, {ones, top, 0x80},
		{ones - 1, ones, 0}, {ones, ones, 0x80}, {ones, ones - 1, 0x80},
	} {
		for _, soft := range []bool{false, true} {
			c := Clint{Soft: soft, Cmp: x.cmp, Now: x.now}
			want := x.timer
			if soft {
				want += 8
			}
			if got := c.Lines(); got != want || c != (Clint{Soft: soft, Cmp: x.cmp, Now: x.now}) {
				t.Errorf("Soft %v, Now %#x, Cmp %#x: %#x, not %#x; then %+v", soft, x.now, x.cmp, got, want, c)
			}
		}
	}
}

func timer(c Clint) bool { return c.Lines()/0x80 == 1 }

// P11.4: step by step, the line is held up from Cmp on and not ahead of it.
func TestTimerFromCmpOn(t *testing.T) {
	for _, cmp := range []uint64{0, 1, 5, 40, low, low + 1, low + 20, top - 2, top, top + 7, ones - 60, ones - 1, ones} {
		c := Begin()
		c.Store(Mtimecmp, 8, cmp)
		from := uint64(0)
		if cmp > 10 {
			from = cmp - 10
		}
		c.Tick(from)
		for now := from; ; now++ {
			if timer(c) != (now >= cmp) {
				t.Fatalf("Cmp %#x, Now %#x: %#x", cmp, now, c.Lines())
			}
			if now == ones || now == from+30 {
				break
			}
			c.Tick(1)
		}
	}
}

// P11.4: it goes down when Cmp is set beyond the time, when the time is set back, and when the time begins anew at 0.
func TestTimerGoesDown(t *testing.T) {
	c := Clint{Cmp: 5, Now: 5}
	for _, step := range []struct {
		name string
		do   func()
		want bool
	}{
		{"at Cmp", func() {}, true},
		{"Cmp is one beyond", func() { c.Store(Mtimecmp, 8, 6) }, false},
		{"one tick", func() { c.Tick(1) }, true},
		{"Cmp's high half is 1", func() { c.Store(Mtimecmp+4, 4, 1) }, false},
		{"the time's high half is 1", func() { c.Store(Mtime+4, 4, 1) }, true},
		{"the time's low half is one less", func() { c.Store(Mtime, 4, 5) }, false},
		{"Cmp's low half is one less", func() { c.Store(Mtimecmp, 4, 5) }, true},
		{"the time is 0", func() { c.Store(Mtime, 8, 0) }, false},
		{"all the time there is", func() { c.Tick(ones) }, true},
		{"one tick more", func() { c.Tick(1) }, false},
		{"Cmp is 0", func() { c.Store(Mtimecmp, 8, 0) }, true},
		{"no tick", func() { c.Tick(0) }, true},
	} {
		if step.do(); timer(c) != step.want {
			t.Errorf("%s: %#x of %+v", step.name, c.Lines(), c)
		}
	}
}

// P11.1, P11.2: the software interrupt's line is Soft, as it is stored, whatever the time is.
func TestSoftLine(t *testing.T) {
	for _, c := range []Clint{{Cmp: 1}, {Cmp: 0}, {Cmp: 5, Now: 9}, Begin()} {
		before := c.Lines()
		if c.Store(Msip, 4, 1); c.Lines() != before+8 {
			t.Errorf("%+v: %#x", c, c.Lines())
		}
		if c.Store(Msip, 4, 0); c.Lines() != before {
			t.Errorf("%+v: %#x", c, c.Lines())
		}
	}
}
