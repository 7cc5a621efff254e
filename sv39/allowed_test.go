package sv39

import (
	"math"
	"testing"

	"vireo/api"
)

// P10.2: by hand, what is allowed; a page fault else, with Reads all the same.
func TestAllowedByHand(t *testing.T) {
	const sum, mxr = 1, 2
	for _, c := range []struct {
		mode  api.Mode
		kind  int
		with  int
		low   uint64
		allow bool
	}{
		{0, api.Fetch, 0, v | x | u | a, true},
		{0, api.Fetch, 0, v | x | a, false}, // not a user's
		{0, api.Load, sum, v | r | a, false},
		{0, api.Store, sum, v | r | w | a | d, false},
		{0, api.Load, 0, v | r | u | a, true},
		{0, api.Store, 0, v | r | w | u | a | d, true},
		{1, api.Fetch, 0, v | x | a, true},
		{1, api.Fetch, 0, v | x | u | a, false},
		{1, api.Fetch, sum, v | x | u | a, false}, // not by SUM
		{1, api.Load, 0, v | r | u | a, false},
		{1, api.Load, sum, v | r | u | a, true},
		{1, api.Store, 0, v | r | w | u | a | d, false},
		{1, api.Store, sum, v | r | w | u | a | d, true},
		{1, api.Load, sum, v | r | a, true},
		{1, api.Fetch, 0, v | x, false}, // A is 0
		{1, api.Load, 0, v | r, false},
		{1, api.Store, 0, v | r | w | d, false},
		{1, api.Fetch, mxr, v | r | a, false},
		{1, api.Load, 0, v | x | a, false},
		{1, api.Load, mxr, v | x | a, true},
		{0, api.Load, mxr, v | x | u | a, true},
		{0, api.Load, mxr, v | x | a, false},
		{1, api.Load, mxr, v | x | u | a, false},
		{1, api.Load, mxr | sum, v | x | u | a, true},
		{1, api.Load, mxr, v | x, false},
		{1, api.Store, mxr, v | x | a | d, false},
		{1, api.Store, 0, v | r | a | d, false}, // W is 0
		{1, api.Store, 0, v | r | w | a, false}, // D is 0
		{1, api.Store, 0, v | r | w | a | d, true},
		{1, api.Load, 0, v | r | w | a, true}, // D doesn't count
		{1, api.Fetch, 0, v | r | w | x | a, true},
	} {
		m := tables(t)
		layAt(t, m, 0, pte(target, c.low))
		way := by(table2, c.mode, c.kind)
		way.Sum, way.Mxr = c.with&sum != 0, c.with&mxr != 0
		want := paged(3)
		if c.allow {
			want = addr(target+0x678, 3)
		}
		if got := Walk(m, way, within); got != want {
			t.Errorf("%+v: %+v", c, got)
		}
	}
}

// P10.2: every word of an entry's ten low bits, at each level, in every way.
func TestAllowedInEveryWay(t *testing.T) {
	pages := []uint64{target, 0x80200000, 0xc0000000}
	for level := 2; level >= 0; level-- {
		m := tables(t)
		for low := range uint64(1024) {
			layAt(t, m, level, pte(pages[level], low))
			for _, way := range ways(table2) {
				if got, want := Walk(m, way, within), model(m, way, within); got != want {
					t.Fatalf("%#x at level %d, %+v: %+v, not %+v", low, level, way, got, want)
				}
			}
		}
	}
}

// P10.2: a kind that is neither Fetch nor Load goes as Store, and so P10.1 lets it.
func TestOtherKinds(t *testing.T) {
	m := tables(t)
	for low := range uint64(256) {
		layAt(t, m, 0, pte(target, low))
		for _, way := range ways(table2) {
			if way.Kind != api.Store {
				continue
			}
			want := Walk(m, way, within)
			for _, kind := range []int{math.MinInt, -1, 3, 4, 1 << 32, 1<<32 + 1, math.MaxInt} {
				way.Kind = kind
				if got := Walk(m, way, within); got != want {
					t.Fatalf("%#x, %+v: %+v, not %+v", low, way, got, want)
				}
			}
		}
	}
}

// P10.2: a mode that there is not is neither held to U nor kept from it.
func TestOtherModes(t *testing.T) {
	m := tables(t)
	for _, mode := range []api.Mode{math.MinInt, -1, 2, 4, math.MaxInt} {
		for _, kind := range kinds {
			for _, user := range []uint64{0, u} {
				layAt(t, m, 0, pte(target, v|r|w|x|a|d|user))
				if got := Walk(m, by(table2, mode, kind), within); got != addr(target+0x678, 3) {
					t.Errorf("mode %d, kind %d, U %d: %+v", mode, kind, user, got)
				}
			}
		}
	}
}

// P10.5: where a store goes a load goes, to the same place.
func TestLoadWhereStore(t *testing.T) {
	pages := []uint64{target, 0x80200000, 0xc0000000}
	stores := 0
	for level := 2; level >= 0; level-- {
		m := tables(t)
		for low := range uint64(1024) {
			layAt(t, m, level, pte(pages[level], low))
			for _, way := range ways(table2) {
				if way.Kind != api.Store {
					continue
				}
				stored := Walk(m, way, within)
				if stored.Fault {
					continue
				}
				stores++
				way.Kind = api.Load
				if got := Walk(m, way, within); got != stored {
					t.Errorf("%#x at level %d, %+v: %+v, not %+v", low, level, way, got, stored)
				}
			}
		}
	}
	if stores == 0 {
		t.Errorf("no store went anywhere")
	}
}
