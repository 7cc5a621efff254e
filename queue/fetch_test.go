package queue

import (
	"math"
	"math/rand"
	"slices"
	"testing"

	"vireo/api"
	"vireo/chain"
	"vireo/ram"
	"vireo/ring"
)

// counts: numbers on both sides of 0, of Size and its multiples, and of 65535.
func counts(size int) []uint16 {
	out := []uint16{32767, 32768, 65534, 65535}
	for _, n := range []int{0, size, 2 * size, 65536 - size, 40000} {
		for off := -1; off <= 1; off++ {
			out = append(out, uint16(n+off))
		}
	}
	return out
}

// unfit: layouts that ring.Check doesn't let be, and its errors.
func unfit() map[api.Layout]api.Errno {
	good := layout(4)
	with := func(do func(l *api.Layout)) api.Layout {
		l := good
		do(&l)
		return l
	}
	return map[api.Layout]api.Errno{
		{}:                                       api.ErrLayout,
		with(func(l *api.Layout) { l.Size = 0 }): api.ErrLayout,
		with(func(l *api.Layout) { l.Size = 3 }): api.ErrLayout,
		with(func(l *api.Layout) { l.Size = 512 }):             api.ErrLayout,
		with(func(l *api.Layout) { l.Size = -4 }):              api.ErrLayout,
		with(func(l *api.Layout) { l.Size = math.MaxInt }):     api.ErrLayout,
		with(func(l *api.Layout) { l.Size = math.MinInt }):     api.ErrLayout,
		with(func(l *api.Layout) { l.Size = 1<<32 + 4 }):       api.ErrLayout,
		with(func(l *api.Layout) { l.Desc += 8 }):              api.ErrLayout,
		with(func(l *api.Layout) { l.Avail++ }):                api.ErrLayout,
		with(func(l *api.Layout) { l.Used += 2 }):              api.ErrLayout,
		with(func(l *api.Layout) { l.Desc, l.Used = 0, ones }): api.ErrLayout,
		with(func(l *api.Layout) { l.Desc = 0 }):               api.ErrPlace,
		with(func(l *api.Layout) { l.Desc = base - 16 }):       api.ErrPlace,
		with(func(l *api.Layout) { l.Desc = end - 48 }):        api.ErrPlace,
		with(func(l *api.Layout) { l.Avail = 0 }):              api.ErrPlace,
		with(func(l *api.Layout) { l.Avail = base - 2 }):       api.ErrPlace,
		with(func(l *api.Layout) { l.Avail = end - 12 }):       api.ErrPlace,
		with(func(l *api.Layout) { l.Used = ones - 3 }):        api.ErrPlace,
		with(func(l *api.Layout) { l.Used = base - 4 }):        api.ErrPlace,
		with(func(l *api.Layout) { l.Used = end - 36 }):        api.ErrPlace,
	}
}

// P17.1: of a queue that isn't Ready nothing comes, whatever is offered, and wherever it lies; nothing is looked at.
func TestFetchOfNoneReady(t *testing.T) {
	m, q := at(t, 4, 9)
	give(m, q, 0, 1)
	q.Ready = false
	row := all(t, m)
	watched(t, m, nil, nil, func() {
		nothing(t, m, q, api.OK)
		for l := range unfit() {
			nothing(t, m, &Queue{Layout: l, Fetched: 3, Used: 5, EventIdx: true, Indirect: true}, api.OK)
		}
		nothing(t, nil, q, api.OK)
	})
	offer(m, q, 100)
	nothing(t, m, q, api.OK)
	offer(m, q, 11)
	holds(t, m, row)
	q.Ready = true
	gets(t, m, q, Item{0, named(0)})
}

// P17.1: ring.Check's errors come ahead of all that is offered; nothing is looked at.
func TestFetchOfLayoutsThatMayNotBe(t *testing.T) {
	m := filled(t)
	for l, e := range unfit() {
		if got := ring.Check(m, l); got != e {
			t.Fatalf("Check of %+v: %d", l, got)
		}
		watched(t, m, nil, nil, func() {
			for _, n := range []uint16{0, 1, 0x0201, 65535} {
				nothing(t, m, &Queue{Layout: l, Ready: true, Fetched: n}, e)
			}
		})
	}
	nothing(t, nil, &Queue{Layout: layout(4), Ready: true}, api.ErrPlace)
	nothing(t, made(t, page), &Queue{Layout: layout(4), Ready: true}, api.ErrPlace)
}

// P17.1: a layout that may not be is told, even if nothing seems to be offered, or too much.
func TestFetchLooksAtLayoutFirst(t *testing.T) {
	for _, waiting := range []uint16{0, 1, 4, 5, 65535} {
		m, q := ready(t, 4)
		offer(m, q, waiting)
		q.Layout.Desc += 8
		nothing(t, m, q, api.ErrLayout)
		q.Layout.Desc = 0
		nothing(t, m, q, api.ErrPlace)
	}
}

// P17.1: nothing, one, two, Size, Size + 1 and 65535 chains, with both counts on both sides of 65535 and 0.
func TestFetchOfSoManyOffered(t *testing.T) {
	for _, size := range sizes {
		for _, n := range counts(size) {
			m, q := ready(t, size)
			for i := range size {
				head(m, q, uint16(i), uint16(size-1-i))
			}
			of := size - 1 - int(n)%size
			for _, waiting := range []int{0, 1, 2, size - 1, size, size + 1, size + 2, 2 * size, 32767, 32768, 65534, 65535} {
				q.Fetched = n
				offer(m, q, n+uint16(waiting))
				switch {
				case waiting == 0:
					nothing(t, m, q, api.OK)
				case waiting <= size:
					gets(t, m, q, Item{uint16(of), named(of)})
				default:
					nothing(t, m, q, api.ErrJump)
				}
			}
		}
	}
}

// fresh lays, of every entry of what is offered, a head of its own.
func fresh(m *ram.RAM, q *Queue) func(n uint16) int {
	size := q.Layout.Size
	of := func(n uint16) int { return (int(n)%size*5 + 3) % size }
	for i := range size {
		head(m, q, uint16(i), uint16(of(uint16(i))))
	}
	return of
}

// P17.1: every number of chains that can seem to be offered.
func TestFetchOfAllOffered(t *testing.T) {
	for _, n := range []uint16{0, 3, 65535} {
		m, q := ready(t, 8)
		of := fresh(m, q)(n)
		for waiting := range 65536 {
			q.Fetched = n
			offer(m, q, n+uint16(waiting))
			switch {
			case waiting == 0:
				nothing(t, m, q, api.OK)
			case waiting <= 8:
				gets(t, m, q, Item{uint16(of), named(of)})
			default:
				nothing(t, m, q, api.ErrJump)
			}
		}
	}
}

// P17.1: which head is fetched, of every number up to 65535 and beyond it.
func TestFetchOfAllNumbers(t *testing.T) {
	for _, size := range []int{1, 2, 8, 256} {
		m, q := ready(t, size)
		of := fresh(m, q)
		for i := range 65536 + 2*size {
			n := uint16(i)
			if q.Fetched != n {
				t.Fatalf("%d were fetched, not %d", q.Fetched, n)
			}
			offer(m, q, n+uint16(1+i%size))
			want := of(n)
			item, is, e := q.Fetch(m)
			if !is || e != api.OK || !sameItem(item, Item{uint16(want), named(want)}) {
				t.Fatalf("the number %d of %d: %+v, %v, %d", n, size, item, is, e)
			}
		}
	}
}

// P17.1: Size chains are fetched one behind the other, then there is nothing; Used isn't changed.
func TestFetchTillNothing(t *testing.T) {
	for _, size := range sizes {
		for _, n := range counts(size) {
			m, q := at(t, size, n)
			of := fresh(m, q)
			q.Used = 1234
			offer(m, q, n+uint16(size))
			for i := range size {
				want := of(n + uint16(i))
				gets(t, m, q, Item{uint16(want), named(want)})
			}
			nothing(t, m, q, api.OK)
			nothing(t, m, q, api.OK)
			offer(m, q, n+uint16(size)+1)
			want := of(n)
			gets(t, m, q, Item{uint16(want), named(want)})
		}
	}
}

// P17.1: of a queue that ends where the memory does.
func TestFetchAtMemorysEnd(t *testing.T) {
	for _, size := range []int{1, 2, 4} {
		m := made(t, small)
		q := &Queue{Layout: ending(size), Ready: true}
		q.Layout.Used = base
		q.Layout.Avail -= 16 * 4
		lay(t, m, q.Layout.Desc, size-1, api.Desc{Addr: end - 1, Len: 1})
		give(m, q, uint16(size-1))
		gets(t, m, q, Item{uint16(size - 1), chain.Chain{Segments: []api.Segment{{At: end - 1, Len: 1}}}})
		nothing(t, m, q, api.OK)
	}
}

// broken: chains that chain.Walk refuses in a queue of 4 at its head 2, where tables are allowed, and its errors.
func broken() map[api.Errno][]api.Desc {
	return map[api.Errno][]api.Desc{
		api.ErrIndex:  {{Addr: data, Len: 1, Flags: next, Next: 4}},
		api.ErrLoop:   {{Addr: data, Len: 1, Flags: next, Next: 2}},
		api.ErrPlace:  {{Addr: end - 1, Len: 2}},
		api.ErrOrder:  {{Addr: data, Len: 1, Flags: next | write, Next: 3}, {Addr: data, Len: 1}},
		api.ErrNested: {{Addr: data, Len: 16, Flags: indirect | next, Next: 3}},
		api.ErrTable:  {{Addr: data, Len: 17, Flags: indirect}},
	}
}

// P17.1: behind a chain that is refused one more was fetched; the item has the head alone; then it goes on.
func TestFetchOfBrokenChains(t *testing.T) {
	for e, list := range broken() {
		for _, n := range counts(4) {
			m, q := at(t, 4, n)
			q.Indirect = true
			for i, d := range list {
				lay(t, m, q.Layout.Desc, 2+i, d)
			}
			give(m, q, 0, 2, 1)
			row := all(t, m)
			gets(t, m, q, Item{0, named(0)})
			refuses(t, m, q, 2, e)
			gets(t, m, q, Item{1, named(1)})
			nothing(t, m, q, api.OK)
			holds(t, m, row)
		}
	}
}

// P17.1: heads that aren't below Size are told, and refused; none is cut.
func TestFetchOfHeadsThatAreNone(t *testing.T) {
	for _, size := range sizes {
		for _, of := range []int{size, size + 1, 256, 257, 128 * size, 32768, 65536 - size, 65535} {
			m, q := ready(t, size)
			give(m, q, uint16(of))
			refuses(t, m, q, uint16(of), api.ErrIndex)
			nothing(t, m, q, api.OK)
		}
	}
}

// P17.1: tables of descriptors, where Indirect is true, and where it is false.
func TestFetchOfTables(t *testing.T) {
	m, q := ready(t, 4)
	lay(t, m, q.Layout.Desc, 1, api.Desc{Addr: data, Len: 9, Flags: next, Next: 3})
	lay(t, m, q.Layout.Desc, 3, api.Desc{Addr: data + 512, Len: 48, Flags: indirect})
	lay(t, m, data+512, 0, api.Desc{Addr: data + 20, Len: 7, Flags: next | write, Next: 2})
	lay(t, m, data+512, 2, api.Desc{Addr: data + 30, Len: 8, Flags: write})
	inner := []api.Segment{{At: data + 20, Len: 7, Write: true}, {At: data + 30, Len: 8, Write: true}}
	table := api.Span{At: data + 512, Len: 48}
	give(m, q, 1, 3, 0)
	q.Indirect = true
	gets(t, m, q, Item{1, chain.Chain{Segments: append([]api.Segment{{At: data, Len: 9}}, inner...), Table: table}})
	gets(t, m, q, Item{3, chain.Chain{Segments: inner, Table: table}})
	gets(t, m, q, Item{0, named(0)})
	q.Indirect, q.Fetched = false, 0
	refuses(t, m, q, 1, api.ErrNested)
	refuses(t, m, q, 3, api.ErrNested)
	gets(t, m, q, Item{0, named(0)})
}

// P17.1: neither EventIdx nor what a driver's flags are counts for what is fetched; other parts stay.
func TestFetchHangsOnNothingElse(t *testing.T) {
	for _, idx := range []bool{false, true} {
		for _, w := range []uint16{0, 1, 65535} {
			m, q := ready(t, 4)
			q.EventIdx, q.Used, q.Indirect = idx, 60000, true
			flags(m, q, w)
			event(m, q, w)
			give(m, q, 3)
			gets(t, m, q, Item{3, named(3)})
			nothing(t, m, q, api.OK)
		}
	}
}

// P17.1: what is fetched is what stands in memory then.
func TestFetchOfNow(t *testing.T) {
	m, q := ready(t, 4)
	give(m, q, 0, 1)
	head(m, q, 0, 3)
	lay(t, m, q.Layout.Desc, 3, single(7))
	gets(t, m, q, Item{3, named(7)})
	head(m, q, 1, 2)
	gets(t, m, q, Item{2, named(2)})
}

// P17.1: what is read lies in the queue, and nothing is written.
func TestFetchLooksAtItsQueue(t *testing.T) {
	m, q := at(t, 8, 6)
	give(m, q, 5)
	log := &ram.Log{}
	m.Watch(log)
	gets(t, m, q, Item{5, named(5)})
	m.Watch(nil)
	if len(log.Writes) > 0 || len(log.Reads) == 0 {
		t.Errorf("written: %+v; read: %+v", log.Writes, log.Reads)
	}
	areas := ring.Areas(q.Layout)
	for _, s := range log.Reads {
		if !slices.ContainsFunc(areas[:2], func(a api.Span) bool { return a.At <= s.At && s.At+s.Len <= a.At+a.Len }) {
			t.Errorf("%+v is read", s)
		}
	}
}

// P17.1, held against the model: queues by chance, of which each error comes about.
func TestFetchAgainstModel(t *testing.T) {
	chance := rand.New(rand.NewSource(17))
	seen, got := map[api.Errno]int{}, 0
	for range 6000 {
		m, q := someQueue(t, chance)
		for range 6 {
			other, copied := *q, m.Copy()
			item, is, e := modelFetch(copied, &other)
			fetches(t, m, q, item, is, e, other)
			seen[e]++
			if is {
				got++
			}
			if !ram.Same(m, copied) {
				t.Fatalf("Fetch of %+v has written", other)
			}
		}
	}
	for _, e := range []api.Errno{api.OK, api.ErrLayout, api.ErrPlace, api.ErrJump, api.ErrIndex, api.ErrLoop, api.ErrOrder, api.ErrNested} {
		if seen[e] < 30 {
			t.Errorf("the error %d: %d times", e, seen[e])
		}
	}
	if got < 1000 {
		t.Errorf("%d chains", got)
	}
}
