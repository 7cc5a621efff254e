package sv39

import (
	"testing"

	"vireo/api"
)

// P10.3: by hand, of several pages.
func TestEntryLeafSatp(t *testing.T) {
	for _, c := range []struct {
		page, entry, leaf, user, satp uint64
	}{
		{0, 0x1, 0xcf, 0xdf, 0x8000000000000000},
		{0x1000, 0x401, 0x4cf, 0x4df, 0x8000000000000001},
		{0x80000000, 0x20000001, 0x200000cf, 0x200000df, 0x8000000000080000},
		{0x80003000, 0x20000c01, 0x20000ccf, 0x20000cdf, 0x8000000000080003},
		{0x8ffff000, 0x23fffc01, 0x23fffccf, 0x23fffcdf, 0x800000000008ffff},
		{0x10001000, 0x4000401, 0x40004cf, 0x40004df, 0x8000000000010001},
		{0x80000000000000, 0x20000000000001, 0x200000000000cf, 0x200000000000df, 0x8000080000000000},
		{0xfffffffffff000, 0x3ffffffffffc01, 0x3ffffffffffccf, 0x3ffffffffffcdf, 0x80000fffffffffff},
	} {
		if got := Entry(c.page); got != c.entry {
			t.Errorf("Entry(%#x): %#x, not %#x", c.page, got, c.entry)
		}
		if got := Leaf(c.page, false); got != c.leaf {
			t.Errorf("Leaf(%#x, false): %#x, not %#x", c.page, got, c.leaf)
		}
		if got := Leaf(c.page, true); got != c.user {
			t.Errorf("Leaf(%#x, true): %#x, not %#x", c.page, got, c.user)
		}
		if got := Satp(c.page); got != c.satp {
			t.Errorf("Satp(%#x): %#x, not %#x", c.page, got, c.satp)
		}
	}
}

// P10.3: every bit of a page's address.
func TestEntryBitByBit(t *testing.T) {
	for bit := 12; bit < 56; bit++ {
		page := uint64(1) << bit
		at := uint64(1) << (bit - 2)
		if Entry(page) != at+1 || Leaf(page, false) != at+0xcf || Leaf(page, true) != at+0xdf || Satp(page) != satp8+page/4096 {
			t.Errorf("%#x: %#x, %#x, %#x, %#x", page, Entry(page), Leaf(page, false), Leaf(page, true), Satp(page))
		}
	}
}

// P10.3: what these make is what Walk takes: none is odd, and all rights are given.
func TestMadeEntriesAreWalked(t *testing.T) {
	m := made(t, 4*4096)
	lay(t, m, base, 5, Entry(base+0x1000))
	lay(t, m, base+0x1000, 6, Entry(base+0x2000))
	at := va(5, 6, 7, 0xabc)
	for _, page := range []uint64{0, 0x1000, base, 0x10001000, 0xfffffffffff000} {
		for _, user := range bools {
			lay(t, m, base+0x2000, 7, Leaf(page, user))
			for _, kind := range kinds {
				own := Way{Satp: Satp(base), Kind: kind, Mode: api.Supervisor}
				other := Way{Satp: Satp(base), Kind: kind, Mode: api.User}
				if user {
					own, other = other, own
				}
				if got := Walk(m, own, at); got != addr(page+0xabc, 3) {
					t.Errorf("to %#x, %+v: %+v", page, own, got)
				}
				if got := Walk(m, other, at); got != paged(3) {
					t.Errorf("to %#x, %+v: %+v", page, other, got)
				}
			}
		}
	}
}
