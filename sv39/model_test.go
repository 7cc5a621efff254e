package sv39

import (
	"math"
	"math/rand"
	"testing"

	"vireo/api"
	"vireo/ram"
)

const (
	ones = math.MaxUint64
	base = api.RAMBase
)

// The words of entries' bits, by their numbers in the chapter.
const (
	v = 1 << 0
	r = 1 << 1
	w = 1 << 2
	x = 1 << 3
	u = 1 << 4
	g = 1 << 5 // not named: it doesn't count
	a = 1 << 6
	d = 1 << 7
)

var (
	modes = []api.Mode{api.User, api.Supervisor, api.Machine}
	kinds = []int{api.Fetch, api.Load, api.Store}
	bools = []bool{false, true}
)

// satp8: the word of Satp with 8 at 60.
const satp8 = 0x8000000000000000

func made(t *testing.T, size uint64) *ram.RAM {
	t.Helper()
	m, e := ram.New(size)
	if e != api.OK {
		t.Fatalf("New(%d): %d", size, e)
	}
	return m
}

// lay: an entry of the table at an address.
func lay(t *testing.T, m *ram.RAM, table uint64, index int, e uint64) {
	t.Helper()
	if !m.Store(table+8*uint64(index), 8, e) {
		t.Fatalf("no entry %d at %#x", index, table)
	}
}

// pte: an entry that names the page at an address, with some low bits.
func pte(page, low uint64) uint64 { return page/4096*1024 + low }

// by: an access from the table at an address on, of a mode and a kind.
func by(table uint64, mode api.Mode, kind int) Way {
	return Way{Satp: satp8 + table/4096, Mode: mode, Kind: kind}
}

// va: the address whose places in the tables of the levels 2, 1, 0 are these.
func va(i2, i1, i0, low uint64) uint64 {
	at := i2<<30 + i1<<21 + i0<<12 + low
	if i2 >= 256 {
		at += ones - (1<<39 - 1)
	}
	return at
}

func addr(at uint64, reads int) Result { return Result{Addr: at, Reads: reads} }
func paged(reads int) Result           { return Result{Fault: true, Page: true, Reads: reads} }
func beyond(reads int) Result          { return Result{Fault: true, Reads: reads} }

// The model takes a word's parts by quotients and rests.

func part(word uint64, at, n int) uint64 {
	q := word
	for range at {
		q /= 2
	}
	if n > 63 {
		return q
	}
	return q % (1 << n)
}

func has(word uint64, at int) bool { return part(word, at, 1) == 1 }

// modelAllowed: as P10.2 says, word by word.
func modelAllowed(way Way, e uint64) bool {
	user := has(e, 4)
	if way.Mode == 0 && !user {
		return false
	}
	if way.Mode == 1 && user {
		if way.Kind == 0 {
			return false
		}
		if !way.Sum {
			return false
		}
	}
	if !has(e, 6) {
		return false
	}
	if way.Kind == 0 {
		return has(e, 3)
	}
	if way.Kind == 1 {
		return has(e, 1) || has(e, 3) && way.Mxr
	}
	return has(e, 2) && has(e, 7)
}

func modelOdd(e uint64) bool {
	if !has(e, 0) || part(e, 54, 10) != 0 {
		return true
	}
	if has(e, 2) && !has(e, 1) {
		return true
	}
	leads := has(e, 1) || has(e, 3)
	return !leads && (has(e, 4) || has(e, 6) || has(e, 7))
}

// modelWord: eight bytes of a memory, one by one.
func modelWord(m *ram.RAM, at uint64) (uint64, bool) {
	sum := uint64(0)
	for i := 7; i >= 0; i-- {
		b, ok := m.Load(at+uint64(i), 1)
		if !ok {
			return 0, false
		}
		sum = sum*256 + b
	}
	return sum, true
}

// model: what a walk comes to, as P10.1 and P10.2 say.
func model(m *ram.RAM, way Way, at uint64) Result {
	if way.Mode == 3 || part(way.Satp, 60, 4) != 8 {
		return addr(at, 0)
	}
	if top := part(at, 38, 26); top != 0 && top != 1<<26-1 {
		return paged(0)
	}
	table := part(way.Satp, 0, 44) * 4096
	below := uint64(1 << 30) // how many bytes one entry stands for
	for level := 2; level >= 0; level-- {
		e, ok := modelWord(m, table+8*part(at, 12+9*level, 9))
		if !ok {
			return beyond(2 - level)
		}
		if modelOdd(e) {
			return paged(3 - level)
		}
		page := part(e, 10, 44) * 4096
		if has(e, 1) || has(e, 3) {
			if !modelAllowed(way, e) || page%below != 0 {
				return paged(3 - level)
			}
			return addr(page+at%below, 3-level)
		}
		table, below = page, below/512
	}
	return paged(3)
}

// someTables: a memory of five pages full of entries of every sort, most of which lead on.
func someTables(t *testing.T, chance *rand.Rand) *ram.RAM {
	t.Helper()
	m := made(t, 5*4096)
	for i := range uint64(5 * 512) {
		m.Store(base+8*i, 8, someEntry(chance))
	}
	return m
}

func someEntry(chance *rand.Rand) uint64 {
	page := base + uint64(chance.Intn(5))*4096
	switch chance.Intn(8) {
	case 0:
		page = uint64(chance.Intn(4)) << 30
	case 1:
		page = chance.Uint64() % (1 << 56)
	case 2:
		page = base + uint64(chance.Intn(3))<<21
	}
	e := pte(page, uint64(v+chance.Intn(4)<<8))
	switch chance.Intn(8) {
	case 0, 1, 2:
		return e
	case 3:
		return e | uint64(chance.Intn(256))
	case 4:
		return chance.Uint64()
	case 5:
		return e | 1<<(54+chance.Intn(10))
	}
	return e | r | a | uint64(chance.Intn(256))
}

func someAddress(chance *rand.Rand) uint64 {
	at := chance.Uint64()
	switch chance.Intn(8) {
	case 0:
		return at
	case 1, 2, 3:
		return at | (ones - (1<<38 - 1))
	}
	return at % (1 << 38)
}

func someWay(chance *rand.Rand) Way {
	way := by(base+uint64(chance.Intn(6))*4096, api.Mode(chance.Intn(2)), chance.Intn(3))
	way.Sum, way.Mxr = chance.Intn(2) == 0, chance.Intn(2) == 0
	way.Satp += uint64(chance.Intn(1<<16)) << 44
	switch chance.Intn(16) {
	case 0:
		way.Mode = api.Machine
	case 1:
		way.Satp = chance.Uint64()
	case 2:
		way.Kind = chance.Intn(9) - 4
	case 3:
		way.Mode = api.Mode(chance.Intn(9) - 4)
	}
	return way
}

// ways: every one of a kind, a mode, Sum and Mxr, from a table on.
func ways(table uint64) []Way {
	var list []Way
	for _, mode := range []api.Mode{api.User, api.Supervisor} {
		for _, kind := range kinds {
			for _, sum := range bools {
				for _, mxr := range bools {
					way := by(table, mode, kind)
					way.Sum, way.Mxr = sum, mxr
					list = append(list, way)
				}
			}
		}
	}
	return list
}
