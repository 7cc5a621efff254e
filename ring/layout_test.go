package ring

import (
	"math"
	"math/rand"
	"slices"
	"testing"

	"vireo/api"
	"vireo/ram"
)

// P15.1: powers of 2 up to 256, and no other number.
func TestPower(t *testing.T) {
	for n := -70000; n <= 70000; n++ {
		if got := Power(n); got != slices.Contains(sizes, n) {
			t.Errorf("Power(%d): %v", n, got)
		}
	}
	for i := 9; i < 63; i++ {
		for _, n := range []int{1<<i - 1, 1 << i, 1<<i + 1, -1 << i, -1<<i + 1} {
			if Power(n) {
				t.Errorf("Power(%d)", n)
			}
		}
	}
	for _, n := range strange {
		if Power(n) {
			t.Errorf("Power(%d)", n)
		}
	}
}

func areas(t *testing.T, l api.Layout, want [3]api.Span) {
	t.Helper()
	if got := Areas(l); got != want {
		t.Errorf("Areas of %+v: %+v, not %+v", l, got, want)
	}
}

// P15.1: the chapter's example, and the least and the greatest Size.
func TestAreasOfSome(t *testing.T) {
	areas(t, api.Layout{Size: 4, Desc: 0x80000000, Avail: 0x80000040, Used: 0x80000050},
		[3]api.Span{{At: 0x80000000, Len: 64}, {At: 0x80000040, Len: 14}, {At: 0x80000050, Len: 38}})
	areas(t, api.Layout{}, [3]api.Span{{}, {Len: 6}, {Len: 6}})
	areas(t, api.Layout{Size: 1, Desc: 1, Avail: 2, Used: 3},
		[3]api.Span{{At: 1, Len: 16}, {At: 2, Len: 8}, {At: 3, Len: 14}})
	areas(t, api.Layout{Size: 256, Desc: 1000, Avail: 200, Used: 30},
		[3]api.Span{{At: 1000, Len: 4096}, {At: 200, Len: 518}, {At: 30, Len: 2054}})
	areas(t, api.Layout{Size: 1 << 20, Desc: ones, Avail: ones - 1, Used: ones - 2},
		[3]api.Span{{At: ones, Len: 16777216}, {At: ones - 1, Len: 2097158}, {At: ones - 2, Len: 8388614}})
}

// P15.1: every Size from 0 to 2^20, at places that stay what they are, however near to 0 or to the greatest address.
func TestAreas(t *testing.T) {
	marks := []uint64{0, 1, 2, 15, base, base + 1, ones - 15, ones - 1, ones}
	l := api.Layout{}
	want := [3]api.Span{{Len: 0}, {Len: 6}, {Len: 6}}
	for size := range 1<<20 + 1 {
		l.Size = size
		l.Desc, l.Avail, l.Used = marks[size%9], marks[size/9%9], marks[size/81%9]
		want[0].At, want[1].At, want[2].At = l.Desc, l.Avail, l.Used
		if got := Areas(l); got != want {
			t.Fatalf("Areas of %+v: %+v, not %+v", l, got, want)
		}
		want[0].Len += 16
		want[1].Len += 2
		want[2].Len += 8
	}
}

func checks(t *testing.T, m *ram.RAM, l api.Layout, want api.Errno) {
	t.Helper()
	if got := Check(m, l); got != want {
		t.Errorf("Check of %+v in %d bytes: %d, not %d", l, m.Size(), got, want)
	}
}

// P15.1: layouts that may be, in memories of several sizes.
func TestCheckLetsBe(t *testing.T) {
	for _, memory := range []uint64{small, 5 * page, 64 * page, 1 << 28} {
		m := made(t, memory)
		for _, l := range places() {
			checks(t, m, l, api.OK)
		}
		for _, size := range sizes {
			checks(t, m, ending(size, memory), api.OK)
		}
	}
	least := made(t, page)
	for _, size := range sizes {
		checks(t, least, ending(size, page), api.OK)
	}
	checks(t, least, layout(128, base), api.OK)
	checks(t, least, layout(256, base), api.ErrPlace)
	checks(t, made(t, 2*page), layout(256, base), api.OK)
}

// P15.1: one fault each: a Size that may not be.
func TestCheckSize(t *testing.T) {
	m := made(t, small)
	for n := -3; n <= 1030; n++ {
		l := layout(1, base+page)
		l.Size = n
		want := api.ErrLayout
		if slices.Contains(sizes, n) {
			want = api.OK
		}
		checks(t, m, l, want)
	}
	for _, n := range strange {
		checks(t, m, api.Layout{Size: n, Desc: base, Avail: base, Used: base}, api.ErrLayout)
	}
}

// P15.1: one fault each: a place that isn't divided as it must be.
func TestCheckDivided(t *testing.T) {
	m := made(t, small)
	for _, size := range sizes {
		for off := range uint64(32) {
			for piece, by := range []uint64{16, 2, 4} {
				l := api.Layout{Size: size, Desc: base + page, Avail: base + 2*page, Used: base + 64}
				*[]*uint64{&l.Desc, &l.Avail, &l.Used}[piece] += off
				want := api.OK
				if off%by > 0 {
					want = api.ErrLayout
				}
				checks(t, m, l, want)
			}
		}
	}
}

// P15.1: one fault each: a piece that doesn't lie in the memory, each of the three by itself, right at the edges.
func TestCheckPlace(t *testing.T) {
	for _, memory := range []uint64{page, small, 1 << 28} {
		m, end := made(t, memory), uint64(base+memory)
		for _, size := range sizes {
			n := uint64(size)
			for piece, x := range []struct{ by, bytes uint64 }{{16, 16 * n}, {2, 6 + 2*n}, {4, 6 + 8*n}} {
				last := (end - x.bytes) / x.by * x.by
				lies := func(at uint64, want api.Errno) {
					t.Helper()
					l := ending(size, memory)
					*[]*uint64{&l.Desc, &l.Avail, &l.Used}[piece] = at
					checks(t, m, l, want)
				}
				lies(base, api.OK)
				lies(last, api.OK)
				lies(0, api.ErrPlace)
				lies(16, api.ErrPlace)
				lies(base-page, api.ErrPlace)
				lies(base-x.by, api.ErrPlace) // across its beginning
				lies(last+x.by, api.ErrPlace) // across its end
				lies(end, api.ErrPlace)
				lies(end+16, api.ErrPlace)
				lies((ones-x.bytes)/x.by*x.by, api.ErrPlace) // up to the greatest address
				lies(ones-15, api.ErrPlace)
				lies(ones-(x.by-1), api.ErrPlace) // past it
				lies(base+1<<32, api.ErrPlace)
				lies(base+1<<63, api.ErrPlace)
			}
		}
	}
}

// P15.1, rule 1: more than one fault: ErrLayout comes ahead of ErrPlace, whichever piece has which.
func TestCheckOrder(t *testing.T) {
	m := made(t, small)
	for _, l := range []api.Layout{
		{},
		{Size: 3},
		{Size: 4, Desc: 8},
		{Size: 4, Avail: 1},
		{Size: 4, Used: 2},
		{Size: 4, Desc: ones, Avail: base, Used: base},
		{Size: 4, Desc: base, Avail: ones, Used: base},
		{Size: 4, Desc: base, Avail: base, Used: ones},
		{Size: 4, Desc: 0, Avail: base, Used: base + 2},
		{Size: 4, Desc: base + small, Avail: base + 1, Used: base},
		{Size: 4, Desc: base + 8, Avail: 0, Used: 0},
		{Size: 512, Desc: base + small, Avail: base, Used: base},
		{Size: math.MinInt, Desc: ones, Avail: ones, Used: ones},
	} {
		checks(t, m, l, api.ErrLayout)
	}
	checks(t, m, api.Layout{Size: 4}, api.ErrPlace)
	checks(t, nil, api.Layout{Size: 4, Desc: base, Avail: base, Used: base}, api.ErrPlace)
	checks(t, nil, api.Layout{}, api.ErrLayout)
}

// P15.1: layouts of every sort, held against numbers as great as one likes.
func TestCheckOfAny(t *testing.T) {
	chance := rand.New(rand.NewSource(1))
	seen := map[api.Errno]int{}
	for _, memory := range []uint64{page, small, 100 * page} {
		m := made(t, memory)
		for range 60000 {
			l := someLayout(chance, memory)
			want := checked(memory, l)
			seen[want]++
			checks(t, m, l, want)
		}
	}
	for _, e := range []api.Errno{api.OK, api.ErrLayout, api.ErrPlace} {
		if seen[e] < 1000 {
			t.Errorf("%d was asked for %d times", e, seen[e])
		}
	}
}
