package clint

import (
	"math/rand"
	"testing"
)

func TestPlaces(t *testing.T) {
	if Msip != 0 || Mtimecmp != 0x4000 || Mtime != 0xbff8 {
		t.Errorf("%#x, %#x, %#x", Msip, Mtimecmp, Mtime)
	}
}

func refused(t *testing.T, at uint64, n int) {
	t.Helper()
	for _, c := range []Clint{full, Begin(), {}} {
		loads(t, c, at, n, 0, false)
		for _, w := range []uint64{0, 1, 0x5a5a5a5a5a5a5a5a, ones} {
			stores(t, c, at, n, w, c, false)
		}
	}
}

// P11.2: of neither 4 nor 8 bytes nothing is told, and nothing changes, whatever the place.
func TestOtherLengths(t *testing.T) {
	for _, n := range beyond {
		for _, at := range []uint64{0, 1, 2, 4, 8, 0x4000, 0x4004, 0x8000, 0xbff8, 0xbffc, end - 16, end - 8, end - 4, end - 1, end, ones - 7, ones} {
			refused(t, at, n)
		}
	}
}

// P11.2: at places that aren't divided by the number of bytes.
func TestCrookedPlaces(t *testing.T) {
	for _, at := range []uint64{0, 8, 0x3ff8, 0x4000, 0x4008, 0x8000, 0xbff0, 0xbff8, 0xc000, end - 8} {
		for i := range uint64(8) {
			if i%4 != 0 {
				refused(t, at+i, 4)
			}
			if i != 0 {
				refused(t, at+i, 8)
			}
		}
	}
}

// P11.2: across the end and beyond it, up to the greatest word: nothing wraps, and no bit of the place is lost.
func TestBeyondTheEnd(t *testing.T) {
	for _, at := range []uint64{
		end, end + 4, end + 8, end + 0x4000, end + 0xbff8, 2 * end, 1 << 24, 1 << 31, 1 << 32, 1<<32 + 0x4000, 1<<32 + 0xbff8, 1 << 48, 1<<48 + 0xbff8,
		0x02000000, 0x02004000, 0x0200bff8, top, top + 0x4000, top + 0xbff8, ones - 15, ones - 11, ones - 7, ones - 3,
	} {
		refused(t, at, 4)
		refused(t, at, 8)
	}
	refused(t, end-4, 8)
	for i := range uint64(7) {
		refused(t, end-7+i, 8)
	}
	for i := range uint64(3) {
		refused(t, end-3+i, 4)
	}
	for i := range uint64(16) {
		refused(t, ones-i, 4)
		refused(t, ones-i, 8)
	}
}

// P11.2: the first and the last places may be.
func TestFirstAndLast(t *testing.T) {
	loads(t, full, 0, 4, 1, true)
	loads(t, full, 0, 8, 1, true)
	for _, x := range []struct {
		at uint64
		n  int
	}{{4, 4}, {8, 4}, {8, 8}, {end - 4, 4}, {end - 8, 4}, {end - 8, 8}} {
		loads(t, full, x.at, x.n, 0, true)
		stores(t, full, x.at, x.n, ones, full, true)
	}
}

// P11.2: at Msip 1 or 0 is told, as Soft is; Soft is bit 0, and no other bit counts.
func TestMsip(t *testing.T) {
	for _, soft := range []bool{false, true} {
		c := Clint{Soft: soft, Cmp: full.Cmp, Now: full.Now}
		told := uint64(0)
		if soft {
			told = 1
		}
		for _, n := range []int{4, 8} {
			loads(t, c, 0, n, told, true)
			for _, x := range []struct {
				w    uint64
				then bool
			}{
				{0, false}, {1, true}, {2, false}, {3, true}, {4, false}, {0x80, false}, {0x81, true}, {0x100, false}, {0x101, true}, {1 << 31, false}, {1<<31 + 1, true},
				{1 << 32, false}, {1<<32 + 1, true}, {low, true}, {low - 1, false}, {low << 32, false}, {top, false}, {top + 1, true}, {ones, true}, {ones - 1, false},
			} {
				stores(t, c, 0, n, x.w, Clint{Soft: x.then, Cmp: full.Cmp, Now: full.Now}, true)
			}
		}
	}
}

// P11.2: the four bytes behind Msip are none of it.
func TestBehindMsip(t *testing.T) {
	for _, soft := range []bool{false, true} {
		c := Clint{Soft: soft, Cmp: full.Cmp, Now: full.Now}
		for _, w := range []uint64{0, 1, 2, ones} {
			loads(t, c, 4, 4, 0, true)
			stores(t, c, 4, 4, w, c, true)
			stores(t, c, 8, 8, w, c, true)
		}
	}
}

// P11.2: Cmp and Now, whole, the low half and the high half; of a half the word's low one counts.
func TestHalvesAndWholes(t *testing.T) {
	loads(t, full, 0x4000, 8, 0x1817161514131211, true)
	loads(t, full, 0x4000, 4, 0x14131211, true)
	loads(t, full, 0x4004, 4, 0x18171615, true)
	loads(t, full, 0xbff8, 8, 0x2827262524232221, true)
	loads(t, full, 0xbff8, 4, 0x24232221, true)
	loads(t, full, 0xbffc, 4, 0x28272625, true)
	for _, x := range []struct {
		n         int
		high      uint64 // where in the register: 0 or 4
		w         uint64
		cmp, then uint64
	}{
		{8, 0, 0, 0, 0}, {8, 0, ones, ones, ones}, {8, 0, 0xfedcba9876543210, 0xfedcba9876543210, 0xfedcba9876543210},
		{4, 0, 0, 0x1817161500000000, 0x2827262500000000}, {4, 0, ones, 0x18171615ffffffff, 0x28272625ffffffff}, {4, 0, 0xfedcba9876543210, 0x1817161576543210, 0x2827262576543210},
		{4, 4, 0, 0x14131211, 0x24232221}, {4, 4, ones, 0xffffffff14131211, 0xffffffff24232221}, {4, 4, 0xfedcba9876543210, 0x7654321014131211, 0x7654321024232221},
		{4, 0, low << 32, 0x1817161500000000, 0x2827262500000000}, {4, 4, low << 32, 0x14131211, 0x24232221}, {4, 4, 1, 0x114131211, 0x124232221}, {4, 4, 1 << 31, 0x8000000014131211, 0x8000000024232221},
	} {
		stores(t, full, 0x4000+x.high, x.n, x.w, Clint{Soft: true, Cmp: x.cmp, Now: full.Now}, true)
		stores(t, full, 0xbff8+x.high, x.n, x.w, Clint{Soft: true, Cmp: full.Cmp, Now: x.then}, true)
	}
}

// P11.2: a half with its highest bit set is told without a sign above it.
func TestHalvesHaveNoSign(t *testing.T) {
	c := Clint{Cmp: 0x80000000ffffffff, Now: 0xffffffff80000000}
	loads(t, c, 0x4000, 4, 0xffffffff, true)
	loads(t, c, 0x4004, 4, 0x80000000, true)
	loads(t, c, 0xbff8, 4, 0x80000000, true)
	loads(t, c, 0xbffc, 4, 0xffffffff, true)
}

// P11.2: every place within the end, of either length: elsewhere 0 is told and nothing changes; all as the model says.
func TestEveryPlace(t *testing.T) {
	named := map[int]int{}
	for at := range uint64(end + 16) {
		for _, n := range []int{4, 8} {
			asModel(t, full, at, n, 0xfedcba9876543210)
			if c := full; c.Store(at, n, 0) && c != full {
				named[n]++
			}
		}
	}
	if named[4] != 5 || named[8] != 3 {
		t.Errorf("so many places change something: %v", named)
	}
}

// P11.2: beside the registers, just ahead of them and just behind them.
func TestBesideRegisters(t *testing.T) {
	for _, at := range []uint64{0x3ff8, 0x4008, 0xbff0, 0xc000, 0x4100, 0x400, 0xb000, 0x8000, 0x3000} {
		for _, w := range []uint64{0, 1, ones} {
			for _, n := range []int{4, 8} {
				loads(t, full, at, n, 0, true)
				stores(t, full, at, n, w, full, true)
			}
			loads(t, full, at+4, 4, 0, true)
			stores(t, full, at+4, 4, w, full, true)
		}
	}
}

// P11.2: states, places, lengths and words by chance, held against the model.
func TestAccessByChance(t *testing.T) {
	chance := rand.New(rand.NewSource(2))
	came := 0
	for range 100000 {
		at, n := somePlace(chance), someBytes(chance)
		if modelMay(at, n) {
			came++
		}
		asModel(t, someState(chance), at, n, chance.Uint64()>>chance.Intn(64))
	}
	if came < 1000 {
		t.Errorf("only %d may be", came)
	}
}

// P11.3: what is stored in halves is loaded whole, and the other way about, and the halves of one leave the other.
func TestStoredIsLoaded(t *testing.T) {
	for _, at := range []uint64{Mtimecmp, Mtime} {
		for _, w := range []uint64{0, 1, low, low + 1, low << 32, top, 0x0123456789abcdef, 0xfedcba9876543210, ones} {
			for _, c := range []Clint{full, Begin(), {}} {
				x, y, z := c, c, c
				x.Store(at, 8, w)
				loads(t, x, at, 8, w, true)
				loads(t, x, at, 4, w&low, true)
				loads(t, x, at+4, 4, w>>32, true)
				y.Store(at, 4, w&low)
				y.Store(at+4, 4, w>>32)
				z.Store(at+4, 4, w>>32)
				z.Store(at, 4, w&low)
				if x != y || x != z {
					t.Errorf("%#x at %#x: %+v, in halves %+v and %+v", w, at, x, y, z)
				}
			}
		}
	}
	c := full
	for _, w := range []uint64{1, 0, 0, 1, 1} {
		for _, n := range []int{4, 8} {
			c.Store(Msip, n, w)
			loads(t, c, Msip, 4, w, true)
			loads(t, c, Msip, 8, w, true)
		}
	}
}

// P11.2: the chapter's example.
func TestExample(t *testing.T) {
	c := Begin()
	if !c.Store(0x4004, 4, 0) || c.Cmp != 0xffffffff {
		t.Errorf("Cmp: %#x", c.Cmp)
	}
	if c.Soft || c.Now != 0 {
		t.Errorf("%+v", c)
	}
}
