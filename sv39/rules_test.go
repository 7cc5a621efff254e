package sv39

import (
	"math"
	"math/rand"
	"testing"

	"vireo/api"
	"vireo/csr"
	"vireo/ram"
)

// P10.4, P2: a walk changes no byte, and a memory that is watched tells of none.
func TestWalkChangesNothing(t *testing.T) {
	chance := rand.New(rand.NewSource(4))
	for range 10 {
		m := someTables(t, chance)
		before := m.Copy()
		log := &ram.Log{}
		m.Watch(log)
		for range 2000 {
			Walk(m, someWay(chance), someAddress(chance))
		}
		if !ram.Same(m, before) {
			t.Fatalf("changed: %v", ram.Differ(m, before, 9))
		}
		if len(log.Reads) != 0 || len(log.Writes) != 0 {
			t.Fatalf("told: %+v", log)
		}
	}
}

// P10.4: A and D aren't set by an access, neither where it is allowed nor where it isn't.
func TestWalkSetsNoBits(t *testing.T) {
	m := tables(t)
	for low := range uint64(1024) {
		layAt(t, m, 0, pte(target, low))
		for _, way := range ways(table2) {
			Walk(m, way, within)
			if e, _ := m.Load(table0+8*5, 8); e != pte(target, low) {
				t.Fatalf("%+v made %#x of %#x", way, e, pte(target, low))
			}
		}
	}
}

// P10.4: the lowest 12 bits of an address that a walk comes to are those of va.
func TestWalkKeepsLowBits(t *testing.T) {
	chance := rand.New(rand.NewSource(5))
	came := map[int]int{}
	for range 40 {
		m := someTables(t, chance)
		for range 4000 {
			way, at := someWay(chance), someAddress(chance)
			got := Walk(m, way, at)
			if got.Fault {
				continue
			}
			came[got.Reads]++
			if got.Addr%4096 != at%4096 {
				t.Fatalf("%+v, %#x: %+v", way, at, got)
			}
		}
	}
	for reads := range Levels + 1 {
		if came[reads] == 0 {
			t.Errorf("none came by %d entries", reads)
		}
	}
	m := tables(t)
	for low := range uint64(4096) {
		if got := Walk(m, by(table2, api.Supervisor, api.Load), va(3, 4, 5, low)); got != addr(target+low, 3) {
			t.Fatalf("%#x: %+v", low, got)
		}
	}
}

// P10.5: of tables of every sort, by the ways that Of tells.
func TestLoadWhereStoreOfAnyTables(t *testing.T) {
	chance := rand.New(rand.NewSource(6))
	came := 0
	for range 20 {
		m := someTables(t, chance)
		for range 4000 {
			f := csr.File{Mode: modes[chance.Intn(3)], Status: chance.Uint64(), Satp: someWay(chance).Satp}
			at := someAddress(chance)
			store := Walk(m, Of(&f, api.Store), at)
			if store.Fault {
				continue
			}
			came++
			if got := Walk(m, Of(&f, api.Load), at); got != store {
				t.Fatalf("%+v, %#x: %+v, not %+v", f, at, got, store)
			}
		}
	}
	if came == 0 {
		t.Errorf("no store went anywhere")
	}
}

// P1: every call ends and none panics, whatever it is given; rule 2: beside a fault there is no address, and without one no page fault.
func TestAnyArgument(t *testing.T) {
	chance := rand.New(rand.NewSource(1))
	m := someTables(t, chance)
	noise := made(t, 4*4096)
	for i := range uint64(4 * 512) {
		noise.Store(base+8*i, 8, chance.Uint64())
	}
	odd := []int{math.MinInt, -1, 2, 3, 4, 64, 1 << 32, math.MaxInt}
	for range 100000 {
		way, at := someWay(chance), chance.Uint64()>>chance.Intn(64)
		if chance.Intn(4) == 0 {
			way = Way{Satp: chance.Uint64(), Kind: odd[chance.Intn(len(odd))], Mode: api.Mode(odd[chance.Intn(len(odd))])}
		}
		for _, memory := range []*ram.RAM{m, noise, nil} {
			got := Walk(memory, way, at)
			if got.Fault && got.Addr != 0 || !got.Fault && got.Page || got.Reads < 0 || got.Reads > Levels {
				t.Fatalf("%+v, %#x: %+v", way, at, got)
			}
		}
		f := csr.File{Mode: way.Mode, Status: chance.Uint64(), Satp: way.Satp}
		Of(&f, way.Kind)
		Entry(at)
		Leaf(at, way.Sum)
		Satp(at)
	}
}

// P1: of a memory that is none no entry is read.
func TestWalkOfNoMemory(t *testing.T) {
	for _, way := range ways(base) {
		if got := Walk(nil, way, within); got != beyond(0) {
			t.Errorf("%+v: %+v", way, got)
		}
	}
	if got := Walk(nil, Way{Mode: api.Machine}, within); got != addr(within, 0) {
		t.Errorf("bare: %+v", got)
	}
}

// P2: what is told hangs on what is given alone: not on other memories, nor on what was asked ahead.
func TestWalkTellsTheSameAgain(t *testing.T) {
	chance := rand.New(rand.NewSource(7))
	m, other := someTables(t, chance), someTables(t, chance)
	type asked struct {
		way Way
		at  uint64
		got Result
	}
	var list []asked
	for range 4000 {
		way, at := someWay(chance), someAddress(chance)
		list = append(list, asked{way, at, Walk(m, way, at)})
		Walk(other, way, at)
	}
	for i := len(list) - 1; i >= 0; i-- {
		if got := Walk(m, list[i].way, list[i].at); got != list[i].got {
			t.Fatalf("%+v, then %+v", list[i], got)
		}
	}
}

// P2: an entry that is changed is seen by the next walk: nothing of a table is kept.
func TestWalkKeepsNoEntries(t *testing.T) {
	m := tables(t)
	way := by(table2, api.Supervisor, api.Load)
	for _, page := range []uint64{target, 0, base, 0x10001000} {
		layAt(t, m, 0, pte(page, v|r|a))
		if got := Walk(m, way, within); got != addr(page+0x678, 3) {
			t.Errorf("to %#x: %+v", page, got)
		}
	}
	layAt(t, m, 2, 0)
	if got := Walk(m, way, within); got != paged(1) {
		t.Errorf("%+v", got)
	}
}

func TestLevels(t *testing.T) {
	if Levels != 3 {
		t.Errorf("Levels: %d", Levels)
	}
}
