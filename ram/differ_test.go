package ram

import (
	"math"
	"slices"
	"testing"

	"vireo/api"
)

// P2.4

func TestSame(t *testing.T) {
	a, b := made(t, 12288), made(t, 12288)
	if !Same(a, b) || !Same(a, a) {
		t.Errorf("two blank memories: not the same")
	}
	for _, at := range []uint64{base, base + 1, second - 1, second, second + 4095, second + 4096, base + 12287} {
		a.Store(at, 1, 0x80)
		if Same(a, b) || Same(b, a) || !Same(a, a) {
			t.Errorf("a byte at %#x: the same", at)
		}
		b.Store(at, 1, 0x81)
		if Same(a, b) || Same(b, a) {
			t.Errorf("another byte at %#x: the same", at)
		}
		b.Store(at, 1, 0x80)
		if !Same(a, b) || !Same(b, a) {
			t.Errorf("like bytes at %#x: not the same", at)
		}
	}
}

func TestSameOfPagesThatAreBlankAgain(t *testing.T) {
	a, b := made(t, 8192), made(t, 8192)
	a.Store(base, 8, 1)
	a.Store(base, 8, 0)
	b.Write(second, make([]byte, 4096))
	if !Same(a, b) || !Same(b, a) || len(Differ(a, b, 9)) != 0 || len(Differ(b, a, 9)) != 0 {
		t.Errorf("pages of noughts differ from those that were never written")
	}
}

func TestSameOfUnlikeSizes(t *testing.T) {
	a, b := made(t, 4096), made(t, 8192)
	if Same(a, b) || Same(b, a) {
		t.Errorf("memories of unlike sizes: the same")
	}
	a.Store(base, 1, 1)
	b.Store(second, 1, 1)
	for _, most := range []int{math.MinInt, 0, 1, 9, math.MaxInt} {
		if x, y := Differ(a, b, most), Differ(b, a, most); len(x) != 0 || len(y) != 0 {
			t.Errorf("Differ of unlike sizes: %v, %v", x, y)
		}
	}
}

// put: a memory like another one, with a byte of another value at each place.
func put(m *RAM, places ...uint64) *RAM {
	c := m.Copy()
	for _, at := range places {
		w, _ := c.Load(at, 1)
		c.Store(at, 1, w^0xff)
	}
	return c
}

func span(at, n uint64) []uint64 {
	out := make([]uint64, n)
	for i := range out {
		out[i] = at + uint64(i)
	}
	return out
}

func TestDiffer(t *testing.T) {
	whole := []api.Span{{At: base, Len: 12288}}
	for _, c := range []struct {
		places []uint64
		want   []api.Span
	}{
		{nil, nil},
		{span(base, 1), []api.Span{{At: base, Len: 1}}},
		{span(base+12287, 1), []api.Span{{At: base + 12287, Len: 1}}},
		{span(base+4, 4), []api.Span{{At: base + 4, Len: 4}}},
		{[]uint64{base, base + 2}, []api.Span{{At: base, Len: 1}, {At: base + 2, Len: 1}}},
		{[]uint64{base, base + 1, base + 3}, []api.Span{{At: base, Len: 2}, {At: base + 3, Len: 1}}},
		{span(second-1, 2), []api.Span{{At: second - 1, Len: 2}}},                                          // across two pages
		{span(second-2, 4100), []api.Span{{At: second - 2, Len: 4100}}},                                    // across three
		{span(second, 4096), []api.Span{{At: second, Len: 4096}}},                                          // a page
		{span(second-1, 1), []api.Span{{At: second - 1, Len: 1}}},                                          // the end of one
		{span(second, 1), []api.Span{{At: second, Len: 1}}},                                                // the beginning of one
		{[]uint64{second - 1, second + 1}, []api.Span{{At: second - 1, Len: 1}, {At: second + 1, Len: 1}}}, // not joined
		{[]uint64{second - 1, second + 4096}, []api.Span{{At: second - 1, Len: 1}, {At: second + 4096, Len: 1}}},
		{[]uint64{base + 12287, second + 5, base}, []api.Span{{At: base, Len: 1}, {At: second + 5, Len: 1}, {At: base + 12287, Len: 1}}},
		{span(base, 12288), whole},
	} {
		for _, m := range []*RAM{made(t, 12288), filled(t, 12288)} {
			other := put(m, c.places...)
			for range 4 { // pieces rise, whatever the order in which pages are come to
				if got := Differ(m, other, 9); !slices.Equal(got, c.want) {
					t.Errorf("Differ: %v, not %v", got, c.want)
				}
				if got := Differ(other, m, math.MaxInt); !slices.Equal(got, c.want) {
					t.Errorf("Differ the other way: %v, not %v", got, c.want)
				}
			}
			if Same(m, other) != (len(c.want) == 0) {
				t.Errorf("Same of memories that differ at %v", c.want)
			}
		}
	}
}

func TestDifferMost(t *testing.T) {
	m := filled(t, 16384)
	places := slices.Concat(span(base+3, 2), span(base+7, 1), span(second-1, 2), span(second+9, 3), span(second+4095, 8))
	pieces := []api.Span{{At: base + 3, Len: 2}, {At: base + 7, Len: 1}, {At: second - 1, Len: 2}, {At: second + 9, Len: 3}, {At: second + 4095, Len: 8}}
	other := put(m, places...)
	for _, most := range []int{math.MinInt, -2, -1, 0, 1, 2, 3, 4, 5, 6, 100, math.MaxInt} {
		want := pieces[:max(0, min(most, len(pieces)))]
		if got := Differ(m, other, most); !slices.Equal(got, want) {
			t.Errorf("Differ, most %d: %v", most, got)
		}
	}
}

func TestDifferInManyPages(t *testing.T) {
	const pages = 64
	m := made(t, pages*api.PageSize)
	other := m.Copy()
	var want []api.Span
	for i := range uint64(pages) {
		at := base + i*api.PageSize + i
		want = append(want, api.Span{At: at, Len: 2})
		// Each memory has some pages that the other one hasn't.
		if i%2 == 0 {
			m.Store(at, 2, 0x0101)
		} else {
			other.Store(at, 2, 0x0101)
		}
	}
	for _, most := range []int{1, 31, pages - 1, pages, pages + 1} {
		if got := Differ(m, other, most); !slices.Equal(got, want[:min(most, pages)]) {
			t.Errorf("Differ, most %d: %v", most, got)
		}
	}
}

func TestDifferByEverySecondByte(t *testing.T) {
	m := made(t, 8192)
	other := m.Copy()
	for i := range uint64(4096) {
		other.Store(base+2*i+1, 1, 1)
	}
	got := Differ(m, other, math.MaxInt)
	if len(got) != 4096 {
		t.Fatalf("Differ: %d pieces", len(got))
	}
	for i, s := range got {
		if s != (api.Span{At: base + 2*uint64(i) + 1, Len: 1}) {
			t.Fatalf("Differ: the piece %d is %v", i, s)
		}
	}
}
