package queue

import (
	"math/rand"
	"slices"
	"testing"

	"vireo/api"
	"vireo/chain"
	"vireo/ram"
	"vireo/ring"
)

// P1: every call ends and none panics, whatever a queue and its memory are; rule 2: beside an error there is nothing but what the chapter names.
func TestAnyQueue(t *testing.T) {
	chance := rand.New(rand.NewSource(1))
	m := filled(t)
	var layouts []api.Layout
	for l := range unfit() {
		layouts = append(layouts, l)
	}
	slices.SortFunc(layouts, func(a, b api.Layout) int {
		return slices.Compare([]uint64{uint64(a.Size), a.Desc, a.Avail, a.Used}, []uint64{uint64(b.Size), b.Desc, b.Avail, b.Used})
	})
	for _, size := range sizes {
		layouts = append(layouts, layout(size), ending(size), api.Layout{Size: size, Desc: base, Avail: base, Used: base})
	}
	for range 20000 {
		q := &Queue{
			Layout: layouts[chance.Intn(len(layouts))], Ready: chance.Intn(4) > 0, Fetched: uint16(chance.Uint32()), Used: uint16(chance.Uint32()),
			EventIdx: chance.Intn(2) == 0, Indirect: chance.Intn(2) == 0,
		}
		if chance.Intn(8) == 0 {
			q.Layout = api.Layout{Size: int(chance.Uint64()) >> chance.Intn(64), Desc: chance.Uint64(), Avail: chance.Uint64(), Used: chance.Uint64()}
		}
		for _, memory := range []*ram.RAM{m, nil} {
			if memory != nil && ring.Check(m, q.Layout) == api.OK {
				offer(m, q, q.Fetched+uint16(chance.Intn(q.Layout.Size+2)))
			}
			item, is, e := q.Fetch(memory)
			if !is && !sameChain(item.Chain, chain.Chain{}) || is && e != api.OK || !is && e == api.OK && item.Head != 0 {
				t.Fatalf("Fetch: %+v, %v, %d", item, is, e)
			}
			q.Return(memory, uint16(chance.Uint32()), chance.Uint32())
			q.Tells(memory, q.Used-1)
			q.Ask(memory)
			q.Serve(memory, func(chain.Chain) (uint32, bool) { return 1, chance.Intn(50) > 0 })
		}
		q.Reset()
	}
}

// P1: any bytes in the memory: Serve ends, and does what the model does.
func TestAnyBytes(t *testing.T) {
	chance := rand.New(rand.NewSource(2))
	row := make([]byte, small)
	asked := 0
	for range 1500 {
		m := made(t, small)
		chance.Read(row)
		m.Write(base, row)
		size := sizes[chance.Intn(len(sizes))]
		q := &Queue{
			Layout: api.Layout{Size: size, Desc: base + 16*uint64(chance.Intn(700)), Avail: base + 2*uint64(chance.Intn(7000)), Used: base + 4*uint64(chance.Intn(3000))},
			Ready:  true, EventIdx: chance.Intn(2) == 0, Indirect: chance.Intn(2) == 0,
		}
		q.Fetched = half(m, q.Layout.Avail+2) - uint16(chance.Intn(size+1))
		for i := range size {
			if chance.Intn(2) == 0 {
				lay(t, m, q.Layout.Desc, i, someDesc(chance, size))
				head(m, q, uint16(i), uint16(i))
			}
		}
		other := *q
		answers := someAnswers(chance, q)
		a, b := &player{m: m, answers: answers}, &player{m: m.Copy(), answers: answers}
		want, e, _ := modelServe(b.m, &other, b.use)
		serves(t, m, q, a.use, want, e)
		a.was(t, b.chains...)
		asked += len(a.chains)
		if *q != other || !ram.Same(m, b.m) {
			t.Fatalf("Serve leaves %+v, not %+v, or another memory", *q, other)
		}
	}
	if asked < 500 {
		t.Errorf("asked %d times", asked)
	}
}

// P1: no device, and one that panics, can't have a chain; what it had ahead of it is told.
func TestDevicesThatPanic(t *testing.T) {
	m, q := ready(t, 4)
	give(m, q, 0, 1)
	row := all(t, m)
	serves(t, m, q, nil, false, api.OK)
	holds(t, m, row)
	asked := 0
	serves(t, m, q, func(chain.Chain) (uint32, bool) {
		if asked++; asked == 2 {
			panic("it can't")
		}
		return 9, true
	}, true, api.OK)
	used(t, m, q, 0, [2]uint32{0, 9})
	if q.Fetched != 1 {
		t.Errorf("Fetched: %d", q.Fetched)
	}
	give(m, q, 9)
	serves(t, m, q, func(chain.Chain) (uint32, bool) { return 8, true }, true, api.ErrIndex)
	used(t, m, q, 0, [2]uint32{0, 9}, [2]uint32{1, 8})
	offer(m, q, 100)
	serves(t, m, q, nil, false, api.ErrJump)
}

// P1: no queue is one that isn't Ready.
func TestNoQueue(t *testing.T) {
	m := filled(t)
	var q *Queue
	watched(t, m, nil, nil, func() {
		if item, is, e := q.Fetch(m); !sameItem(item, Item{}) || is || e != api.OK {
			t.Errorf("Fetch: %+v, %v, %d", item, is, e)
		}
		q.Return(m, 1, 2)
		q.Ask(m)
		q.Reset()
		if q.Tells(m, 1) {
			t.Errorf("Tells: true")
		}
		if got, e := q.Serve(m, never(t)); got || e != api.OK {
			t.Errorf("Serve: %v, %d", got, e)
		}
	})
}

// P1: a queue whose layout may not be is left alone.
func TestLayoutsThatMayNotBeAreLeft(t *testing.T) {
	m := filled(t)
	row := all(t, m)
	for l := range unfit() {
		q := &Queue{Layout: l, Ready: true, EventIdx: true, Fetched: 2, Used: 1}
		watched(t, m, nil, nil, func() {
			q.Return(m, 1, 2)
			q.Ask(m)
			q.Tells(m, 0)
		})
	}
	holds(t, m, row)
}

// P2, rule 3: what is refused, or where there is nothing, changes neither a byte nor the queue, but for what was fetched.
func TestRefusedChangesNothing(t *testing.T) {
	chance := rand.New(rand.NewSource(3))
	for range 4000 {
		m, q := someQueue(t, chance)
		row, ahead := all(t, m), *q
		_, is, e := q.Fetch(m)
		holds(t, m, row)
		if moved := is || e != api.OK && e != api.ErrLayout && e != api.ErrJump && ring.Check(m, ahead.Layout) == api.OK; moved {
			ahead.Fetched++
		}
		if *q != ahead {
			t.Fatalf("Fetch leaves %+v, not %+v", *q, ahead)
		}
		q.Tells(m, q.Used-1)
		holds(t, m, row)
		if *q != ahead {
			t.Fatalf("Tells leaves %+v, not %+v", *q, ahead)
		}
	}
}

// spoil changes all of a list, with its spare room.
func spoil(c chain.Chain) {
	rest := c.Segments[:cap(c.Segments)]
	for i := range rest {
		rest[i] = api.Segment{At: 1, Len: 1}
	}
}

// P2, rule 4: chains that Fetch tells, and those a device is given, are new memory, with their spare room.
func TestChainsAreNew(t *testing.T) {
	m, q := ready(t, 4)
	give(m, q, 1, 1)
	first, _, _ := q.Fetch(m)
	next, _, _ := q.Fetch(m)
	spoil(first.Chain)
	if !sameItem(next, Item{1, named(1)}) {
		t.Errorf("two items share memory: %+v", next)
	}
	give(m, q, 1, 1, 2)
	var kept []chain.Chain
	serves(t, m, q, func(c chain.Chain) (uint32, bool) {
		for _, other := range kept {
			spoil(other)
		}
		if want := []int{1, 1, 2}[len(kept)]; !sameChain(c, named(want)) {
			t.Errorf("asked with %+v, not with %d", c, want)
		}
		kept = append(kept, c)
		return 1, true
	}, true, api.OK)
	used(t, m, q, 0, [2]uint32{1, 1}, [2]uint32{1, 1}, [2]uint32{2, 1})
}

// P2, rule 4: queues are their own: what one does another doesn't tell, nor does another memory.
func TestQueuesOfTheirOwn(t *testing.T) {
	a, p := at(t, 4, 3)
	b, q := at(t, 4, 8)
	give(a, p, 1, 2)
	give(b, q, 3)
	row, ahead := all(t, b), *q
	serves(t, a, p, says(a, 1, 2).use, true, api.OK)
	holds(t, b, row)
	if *q != ahead {
		t.Errorf("%+v, not %+v", *q, ahead)
	}
	serves(t, b, q, says(b, 7).use, true, api.OK)
	used(t, b, q, 8, [2]uint32{3, 7})
	used(t, a, p, 3, [2]uint32{1, 1}, [2]uint32{2, 2})
}

// P2, rule 4: what is told hangs on the queue's parts and its memory alone: a copy of both tells the same.
func TestCopiesTellTheSame(t *testing.T) {
	chance := rand.New(rand.NewSource(4))
	for range 2000 {
		m, q := someQueue(t, chance)
		answers := someAnswers(chance, q)
		q.Serve(m, (&player{m: m, answers: answers}).use)
		other, copied := *q, m.Copy()
		a, b := &player{m: m, answers: answers}, &player{m: copied, answers: answers}
		got, e := q.Serve(m, a.use)
		serves(t, copied, &other, b.use, got, e)
		if *q != other || !ram.Same(m, copied) || !slices.EqualFunc(a.chains, b.chains, sameChain) {
			t.Fatalf("%+v, not %+v, or another memory", *q, other)
		}
	}
}
