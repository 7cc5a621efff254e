package sv39

import (
	"math/rand"
	"testing"

	"vireo/api"
	"vireo/ram"
)

const (
	table2 = base // the tables by level, a page each
	table1 = base + 0x1000
	table0 = base + 0x2000
	target = base + 0x3000
)

// tables: a table of each level, that of level 2 first; their entries 3, 4 and 5 lead to the next one, the last one to memory.
func tables(t *testing.T) *ram.RAM {
	t.Helper()
	m := made(t, 4*4096)
	lay(t, m, table2, 3, pte(table1, v))
	lay(t, m, table1, 4, pte(table0, v))
	lay(t, m, table0, 5, pte(target, v|r|w|x|a|d))
	return m
}

// within: an address that goes through these tables.
var within = va(3, 4, 5, 0x678)

// layAt: an entry in the place that within goes through at a level.
func layAt(t *testing.T, m *ram.RAM, level int, e uint64) {
	t.Helper()
	lay(t, m, []uint64{table0, table1, table2}[level], []int{5, 4, 3}[level], e)
}

// The chapter's example.
func TestExample(t *testing.T) {
	m := made(t, 4096)
	lay(t, m, base, 2, Leaf(0x80000000, false))
	for _, kind := range kinds {
		way := Way{Satp: Satp(base), Kind: kind, Mode: api.Supervisor}
		if got := Walk(m, way, 0x80001234); got != (Result{Addr: 0x80001234, Reads: 1}) {
			t.Errorf("kind %d: %+v", kind, got)
		}
	}
}

// P10.2: bare, in every way to be so: the address itself, in memory or not, proper or not.
func TestWalkBare(t *testing.T) {
	m := tables(t)
	for _, at := range []uint64{0, 1, within, base, 0x4000000000, 0x8000000000000000, ones} {
		for _, kind := range kinds {
			for _, mode := range modes {
				for scheme := range uint64(16) {
					way := Way{Satp: scheme<<60 + table2/4096, Kind: kind, Mode: mode}
					if mode != 3 && scheme == 8 {
						continue
					}
					if got := Walk(m, way, at); got != addr(at, 0) {
						t.Errorf("%+v, %#x: %+v", way, at, got)
					}
				}
			}
		}
	}
}

// P10.2: an address that isn't proper, though the tables would lead on, or lie beyond memory.
func TestWalkNotProper(t *testing.T) {
	m := tables(t)
	for _, table := range []uint64{table2, 0} {
		for _, way := range ways(table) {
			for bit := 38; bit < 64; bit++ {
				if got := Walk(m, way, within^1<<bit); got != paged(0) {
					t.Errorf("%+v, bit %d: %+v", way, bit, got)
				}
				if got := Walk(m, way, (within|(ones-(1<<38-1)))^1<<bit); got != paged(0) {
					t.Errorf("%+v, but for bit %d: %+v", way, bit, got)
				}
			}
		}
	}
}

// P10.2: an entry beyond memory at each level: no page fault, and only those ahead of it are read.
func TestWalkBeyondMemory(t *testing.T) {
	for _, far := range []uint64{0, 0x1000, base - 0x1000, base + 0x4000, base + 0x5000, 0x10001000, base + 1<<32, 0xfffffffffff000} {
		for _, way := range ways(far) {
			if got := Walk(tables(t), way, within); got != beyond(0) {
				t.Errorf("the first table at %#x, %+v: %+v", far, way, got)
			}
		}
		for level := 2; level >= 1; level-- {
			m := tables(t)
			layAt(t, m, level, pte(far, v))
			for _, way := range ways(table2) {
				if got := Walk(m, way, within); got != beyond(3-level) {
					t.Errorf("the table below level %d at %#x, %+v: %+v", level, far, way, got)
				}
			}
		}
	}
}

// P10.2: what lies beyond memory is only refused where an entry would be read there, not where the walk ends.
func TestWalkLeadsAnywhere(t *testing.T) {
	for _, page := range []uint64{0, 0x1000, 0x10001000, base - 0x1000, base + 0x4000, 1 << 55, 0xfffffffffff000} {
		m := tables(t)
		layAt(t, m, 0, pte(page, v|r|w|x|a|d))
		if got := Walk(m, by(table2, api.Supervisor, api.Store), within); got != addr(page+0x678, 3) {
			t.Errorf("to %#x: %+v", page, got)
		}
	}
}

// P10.2: each sort of odd entry, at each level.
func TestWalkOddEntry(t *testing.T) {
	odd := []uint64{
		0, pte(table1, 0), pte(0, r|w|x|u|a|d), pte(0, r|w|x|a|d), ones - 1, // V is 0
		pte(0, v|w), pte(0, v|w|x|a|d), pte(0, v|w|u|a|d), pte(0, v|w|x|u|a|d), // W without R
		pte(table1, v|u), pte(table1, v|a), pte(table1, v|d), pte(table1, v|u|a|d), pte(table1, v|a|d), // not to memory, with U, A or D
		ones,
	}
	for bit := 54; bit < 64; bit++ {
		odd = append(odd, 1<<bit+pte(0, v|r|w|x|u|a|d), 1<<bit+pte(0, v|r|w|x|a|d), 1<<bit+pte(table1, v))
	}
	for level := 2; level >= 0; level-- {
		for _, e := range odd {
			m := tables(t)
			layAt(t, m, level, e)
			for _, way := range ways(table2) {
				if got := Walk(m, way, within); got != paged(3-level) {
					t.Errorf("%#x at level %d, %+v: %+v", e, level, way, got)
				}
			}
		}
	}
}

// P10.2: the bits 5, 8 and 9 of an entry count nowhere.
func TestWalkBitsThatDontCount(t *testing.T) {
	for level := 2; level >= 0; level-- {
		for _, more := range []uint64{g, 1 << 8, 1 << 9, g + 1<<8 + 1<<9} {
			m := tables(t)
			for i, e := range []uint64{pte(target, v|r|w|x|a|d), pte(table0, v), pte(table1, v)} {
				if i == level {
					layAt(t, m, level, e+more)
				}
			}
			if got := Walk(m, by(table2, api.Supervisor, api.Fetch), within); got != addr(target+0x678, 3) {
				t.Errorf("%#x at level %d: %+v", more, level, got)
			}
		}
	}
}

// P10.2: an entry at level 0 that doesn't lead to memory, though its page is a table that would.
func TestWalkNoEnd(t *testing.T) {
	for _, page := range []uint64{table0, table1, table2, target, 0, base + 0x4000} {
		m := tables(t)
		layAt(t, m, 0, pte(page, v))
		for _, way := range ways(table2) {
			if got := Walk(m, way, within); got != paged(3) {
				t.Errorf("to %#x, %+v: %+v", page, way, got)
			}
		}
	}
}

// P10.2: a table that leads to itself ends at level 0, too.
func TestWalkIntoItself(t *testing.T) {
	m := made(t, 4096)
	lay(t, m, base, 1, pte(base, v))
	if got := Walk(m, by(base, api.Supervisor, api.Load), va(1, 1, 1, 0)); got != paged(3) {
		t.Errorf("%+v", got)
	}
	lay(t, m, base, 2, pte(base+0x5000, v|r|a))
	if got := Walk(m, by(base, api.Supervisor, api.Load), va(1, 1, 2, 9)); got != addr(base+0x5009, 3) {
		t.Errorf("%+v", got)
	}
}

// P10.2: to memory at each level: what is below comes from the address.
func TestWalkToMemoryAtEachLevel(t *testing.T) {
	for _, c := range []struct {
		level      int
		page       uint64
		at         uint64
		addr       uint64
		shiftedOff []uint64 // pages whose lowest bits aren't 0
	}{
		{2, 0xc0000000, va(3, 4, 5, 0x678), 0xc0000000 + 4<<21 + 5<<12 + 0x678, []uint64{0xc0001000, 0xc0100000, 0xc0200000, 0xe0000000, 0xfffff000}},
		{2, 0, va(3, 511, 511, 0xfff), 0x3fffffff, []uint64{0x1000, 0x200000, 0x20000000}},
		{2, 0xffffffc0000000, va(3, 0, 1, 0), 0xffffffc0001000, []uint64{0xfffffffffff000, 0xffffffe0000000}},
		{1, 0x80200000, va(3, 4, 5, 0x678), 0x80205678, []uint64{0x80201000, 0x80300000, 0x803ff000}},
		{1, 0xffffffffe00000, va(3, 4, 511, 0xfff), 0xffffffffffffff, []uint64{0xfffffffffff000, 0xfffffffff00000}},
		{0, 0x80201000, va(3, 4, 5, 0x678), 0x80201678, nil},
		{0, 0xfffffffffff000, va(3, 4, 5, 0), 0xfffffffffff000, nil},
	} {
		m := tables(t)
		layAt(t, m, c.level, pte(c.page, v|r|w|x|a|d))
		for _, kind := range kinds {
			if got := Walk(m, by(table2, api.Supervisor, kind), c.at); got != addr(c.addr, 3-c.level) {
				t.Errorf("%+v: %+v", c, got)
			}
		}
		for _, page := range c.shiftedOff {
			layAt(t, m, c.level, pte(page, v|r|w|x|a|d))
			for _, kind := range kinds {
				if got := Walk(m, by(table2, api.Supervisor, kind), c.at); got != paged(3-c.level) {
					t.Errorf("%+v, page %#x: %+v", c, page, got)
				}
			}
		}
	}
}

// P10.2: each of the lowest bits of a page's number, at each level.
func TestWalkPageBitByBit(t *testing.T) {
	for level := 2; level >= 0; level-- {
		for bit := range 44 {
			m := tables(t)
			layAt(t, m, level, 1<<(10+bit)+v|r|a)
			want := addr(4096<<bit+within%(4096<<(9*level)), 3-level)
			if bit < 9*level {
				want = paged(3 - level)
			}
			if got := Walk(m, by(table2, api.Supervisor, api.Load), within); got != want {
				t.Errorf("bit %d at level %d: %+v, not %+v", bit, level, got, want)
			}
		}
	}
}

// P10.2: every place in a table at each level, so for addresses whose bits 38 to 63 are 1, too.
func TestWalkEveryPlace(t *testing.T) {
	for i := range uint64(512) {
		m := made(t, 4*4096)
		j, k := (i+171)%512, (i*5+7)%512
		lay(t, m, table2, int(i), pte(table1, v))
		lay(t, m, table1, int(j), pte(table0, v))
		lay(t, m, table0, int(k), pte(target, v|r|a))
		if got := Walk(m, by(table2, api.Supervisor, api.Load), va(i, j, k, 4095-i)); got != addr(target+4095-i, 3) {
			t.Errorf("%d, %d, %d: %+v", i, j, k, got)
		}
		for _, other := range []struct {
			at    uint64
			reads int
		}{{va((i+1)%512, j, k, 0), 1}, {va(i, (j+1)%512, k, 0), 2}, {va(i, j, (k+1)%512, 0), 3}} {
			if got := Walk(m, by(table2, api.Supervisor, api.Load), other.at); got != paged(other.reads) {
				t.Errorf("beside %d, %d, %d: %+v", i, j, k, got)
			}
		}
	}
}

// P10.2: Satp's bits 44 to 59 name no table.
func TestWalkOtherBitsOfSatp(t *testing.T) {
	m := tables(t)
	for bit := 44; bit < 60; bit++ {
		way := by(table2, api.Supervisor, api.Load)
		way.Satp += 1 << bit
		if got := Walk(m, way, within); got != addr(target+0x678, 3) {
			t.Errorf("bit %d: %+v", bit, got)
		}
	}
	for bit := 20; bit < 44; bit++ { // each of which would lie far beyond memory
		way := by(table2, api.Supervisor, api.Load)
		way.Satp += 1 << bit
		if got := Walk(m, way, within); got != beyond(0) {
			t.Errorf("bit %d: %+v", bit, got)
		}
	}
}

// P10.2: the model and Walk, of tables of every sort.
func TestWalkModel(t *testing.T) {
	chance := rand.New(rand.NewSource(10))
	seen := map[Result]int{}
	for range 40 {
		m := someTables(t, chance)
		for range 4000 {
			way, at := someWay(chance), someAddress(chance)
			want := model(m, way, at)
			if got := Walk(m, way, at); got != want {
				t.Fatalf("%+v, %#x: %+v, not %+v", way, at, got, want)
			}
			want.Addr = 0
			seen[want]++
		}
	}
	for _, sort := range []Result{{}, {Reads: 1}, {Reads: 2}, {Reads: 3}, paged(0), paged(1), paged(2), paged(3), beyond(0), beyond(1), beyond(2)} {
		if seen[sort] < 20 {
			t.Errorf("%+v came %d times", sort, seen[sort])
		}
	}
}
