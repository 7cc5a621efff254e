package queue

import (
	"math"
	"math/rand"
	"slices"
	"testing"

	"vireo/api"
	"vireo/chain"
	"vireo/ram"
)

// P17.3: the chapter's example.
func TestExample(t *testing.T) {
	m, q := ready(t, 4)
	give(m, q, 2, 3)
	serves(t, m, q, func(chain.Chain) (uint32, bool) { return 0, true }, true, api.OK)
	used(t, m, q, 0, [2]uint32{2, 0}, [2]uint32{3, 0})
	if q.Used != 2 {
		t.Errorf("Used: %d", q.Used)
	}
}

// P17.3: of a queue that isn't Ready the device isn't asked, and nothing changes, not even what Ask would put.
func TestServeOfNoneReady(t *testing.T) {
	m, q := at(t, 4, 9)
	q.Ready, q.EventIdx = false, true
	row := all(t, m)
	for _, offered := range []uint16{9, 10, 13, 14} {
		for _, q.Used = range []uint16{9, 0} {
			ahead := *q
			offer(m, q, offered)
			watched(t, m, nil, nil, func() { serves(t, m, q, never(t), false, api.OK) })
			if *q != ahead {
				t.Fatalf("Serve leaves %+v, not %+v", *q, ahead)
			}
		}
	}
	offer(m, q, 9)
	holds(t, m, row)
	for l := range unfit() {
		serves(t, m, &Queue{Layout: l, EventIdx: true}, never(t), false, api.OK)
	}
	holds(t, m, row)
}

// P17.3: of a layout that may not be its error is told, and nothing else happens.
func TestServeOfLayoutsThatMayNotBe(t *testing.T) {
	m := filled(t)
	row := all(t, m)
	for l, e := range unfit() {
		for _, idx := range []bool{false, true} {
			q := Queue{Layout: l, Ready: true, Fetched: 4, Used: 3, EventIdx: idx}
			ahead := q
			watched(t, m, nil, nil, func() { serves(t, m, &q, never(t), false, e) })
			if q != ahead {
				t.Fatalf("Serve leaves %+v, not %+v", q, ahead)
			}
		}
	}
	holds(t, m, row)
	serves(t, nil, &Queue{Layout: layout(4), Ready: true}, never(t), false, api.ErrPlace)
}

// P17.3: without a chain nothing is told; Ask alone puts something, with EventIdx.
func TestServeOfNoChain(t *testing.T) {
	for _, n := range counts(8) {
		for _, w := range []uint16{0, 1} {
			m, q := at(t, 8, n)
			flags(m, q, w)
			event(m, q, n-1)
			row, ahead := all(t, m), *q
			serves(t, m, q, never(t), false, api.OK)
			holds(t, m, row)
			q.EventIdx, ahead.EventIdx = true, true
			serves(t, m, q, never(t), false, api.OK)
			copy(row[q.Layout.Used+4+64-base:], []byte{byte(n), byte(n >> 8)})
			holds(t, m, row)
			if *q != ahead {
				t.Fatalf("Serve leaves %+v, not %+v", *q, ahead)
			}
		}
	}
}

// P17.3: one, two and Size chains, of a device that says true each time: which chains it is given, what is told, and that there is nothing then.
func TestServeOfSoMany(t *testing.T) {
	for _, size := range sizes {
		for _, n := range counts(size) {
			for _, some := range []int{1, min(2, size), size} {
				serveSome(t, size, n, some, false)
				serveSome(t, size, n, some, true)
			}
		}
	}
}

// serveSome serves some chains, from the number n on.
func serveSome(t *testing.T, size int, n uint16, some int, idx bool) {
	t.Helper()
	m, q := at(t, size, n)
	q.EventIdx = idx
	event(m, q, n)
	of := fresh(m, q)
	offer(m, q, n+uint16(some))
	p := &player{m: m}
	var pairs [][2]uint32
	var chains []chain.Chain
	for i := range some {
		head, count := of(n+uint16(i)), uint32(1000*i+5)
		p.answers = append(p.answers, answer{count: count, done: true})
		pairs = append(pairs, [2]uint32{uint32(head), count})
		chains = append(chains, named(head))
	}
	ask := wanted(m, q)
	serves(t, m, q, p.use, true, api.OK)
	p.was(t, chains...)
	used(t, m, q, n, pairs...)
	if idx {
		ask = n + uint16(some)
	}
	if q.Fetched != n+uint16(some) || wanted(m, q) != ask {
		t.Fatalf("Fetched %d, wanted %d, not %d, %d", q.Fetched, wanted(m, q), n+uint16(some), ask)
	}
	row := all(t, m)
	serves(t, m, q, never(t), false, api.OK)
	holds(t, m, row)
}

// P17.3: Serve writes into the piece of Used alone, if the device writes nothing: the entry, how many were used, chain by chain, then what Ask puts.
func TestServeWrites(t *testing.T) {
	m, q := at(t, 4, 3)
	q.EventIdx = true
	give(m, q, 1, 0)
	p := says(m, 7, 8)
	log := &ram.Log{}
	m.Watch(log)
	serves(t, m, q, p.use, false, api.OK)
	m.Watch(nil)
	u := q.Layout.Used
	want := []api.Span{{At: u + 28, Len: 8}, {At: u + 2, Len: 2}, {At: u + 4, Len: 8}, {At: u + 2, Len: 2}, {At: u + 36, Len: 2}}
	if !slices.Equal(log.Writes, want) {
		t.Errorf("written %+v, not %+v", log.Writes, want)
	}
}

// P17.3: counts that a device says are told as they are.
func TestServeOfCounts(t *testing.T) {
	m, q := ready(t, 8)
	give(m, q, 0, 1, 2, 3, 4, 5)
	p := says(m, 0, 1, 255, 0x01020304, 1<<31, math.MaxUint32)
	serves(t, m, q, p.use, true, api.OK)
	used(t, m, q, 0, [2]uint32{0, 0}, [2]uint32{1, 1}, [2]uint32{2, 255}, [2]uint32{3, 0x01020304}, [2]uint32{4, 1 << 31}, [2]uint32{5, math.MaxUint32})
}

// P17.3: a device that can't have the first one yet: nothing is told, and the chain stays, till a later Serve.
func TestServeOfNoneTaken(t *testing.T) {
	for _, n := range counts(4) {
		for _, idx := range []bool{false, true} {
			m, q := at(t, 4, n)
			q.EventIdx = idx
			event(m, q, n)
			give(m, q, 3, 1)
			row, ahead := all(t, m), *q
			for range 3 {
				p := says(m)
				serves(t, m, q, p.use, false, api.OK)
				p.was(t, named(3))
				if idx {
					copy(row[q.Layout.Used+4+32-base:], []byte{byte(n), byte(n >> 8)})
				}
				holds(t, m, row)
				if *q != ahead {
					t.Fatalf("Serve leaves %+v, not %+v", *q, ahead)
				}
			}
			p := says(m, 5, 6)
			serves(t, m, q, p.use, true, api.OK)
			p.was(t, named(3), named(1))
			used(t, m, q, n, [2]uint32{3, 5}, [2]uint32{1, 6})
		}
	}
}

// P17.3: a device that can't have the second one yet: the first is told, and a later Serve goes on there.
func TestServeOfOneTaken(t *testing.T) {
	for _, n := range counts(4) {
		m, q := at(t, 4, n)
		q.EventIdx = true
		event(m, q, n)
		give(m, q, 2, 0, 3)
		p := says(m, 9)
		serves(t, m, q, p.use, true, api.OK)
		p.was(t, named(2), named(0))
		used(t, m, q, n, [2]uint32{2, 9})
		if q.Fetched != n+1 || wanted(m, q) != n+1 {
			t.Fatalf("Fetched %d, wanted %d", q.Fetched, wanted(m, q))
		}
		event(m, q, n+2)
		p = says(m, 8)
		serves(t, m, q, p.use, false, api.OK)
		p.was(t, named(0), named(3))
		used(t, m, q, n, [2]uint32{2, 9}, [2]uint32{0, 8})
		p = says(m, 7)
		serves(t, m, q, p.use, true, api.OK)
		p.was(t, named(3))
		used(t, m, q, n, [2]uint32{2, 9}, [2]uint32{0, 8}, [2]uint32{3, 7})
		serves(t, m, q, never(t), false, api.OK)
	}
}

// P17.3: what a device says beside false isn't told, nor counted.
func TestServeOfCountBesideFalse(t *testing.T) {
	m, q := ready(t, 4)
	give(m, q, 0)
	row := all(t, m)
	serves(t, m, q, func(chain.Chain) (uint32, bool) { return math.MaxUint32, false }, false, api.OK)
	holds(t, m, row)
	if q.Used != 0 || q.Fetched != 0 {
		t.Errorf("%+v", *q)
	}
}

// P17.3, P17.4: a chain that is refused behind good ones: its error, what was told ahead of it, and no Ask; a later Serve goes on behind it.
func TestServeOfBrokenChains(t *testing.T) {
	for e, list := range broken() {
		for _, n := range counts(4) {
			for _, idx := range []bool{false, true} {
				m, q := at(t, 4, n)
				q.Indirect, q.EventIdx = true, idx
				event(m, q, n+1)
				for i, d := range list {
					lay(t, m, q.Layout.Desc, 2+i, d)
				}
				give(m, q, 1, 0, 2, 1)
				ask, p := wanted(m, q), says(m, 10, 20, 30)
				serves(t, m, q, p.use, true, e)
				p.was(t, named(1), named(0))
				used(t, m, q, n, [2]uint32{1, 10}, [2]uint32{0, 20})
				if q.Fetched != n+3 || wanted(m, q) != ask {
					t.Fatalf("Fetched %d, wanted %d, not %d, %d", q.Fetched, wanted(m, q), n+3, ask)
				}
				p = says(m, 40)
				serves(t, m, q, p.use, !idx, api.OK)
				p.was(t, named(1))
				used(t, m, q, n, [2]uint32{1, 10}, [2]uint32{0, 20}, [2]uint32{1, 40})
			}
		}
	}
}

// P17.3: a chain that is refused at first: its error, and nothing is told.
func TestServeOfBrokenFirst(t *testing.T) {
	for e, list := range broken() {
		m, q := ready(t, 4)
		q.Indirect, q.EventIdx = true, true
		for i, d := range list {
			lay(t, m, q.Layout.Desc, 2+i, d)
		}
		give(m, q, 2)
		row := all(t, m)
		serves(t, m, q, never(t), false, e)
		holds(t, m, row)
		if q.Fetched != 1 || q.Used != 0 {
			t.Errorf("%+v", *q)
		}
	}
}

// P17.3: a table of descriptors, where it isn't allowed, and where it is.
func TestServeOfTables(t *testing.T) {
	m, q := ready(t, 4)
	lay(t, m, q.Layout.Desc, 3, api.Desc{Addr: data + 512, Len: 16, Flags: indirect})
	lay(t, m, data+512, 0, single(9))
	give(m, q, 3)
	serves(t, m, q, never(t), false, api.ErrNested)
	q.Indirect = true
	give(m, q, 3)
	p := says(m, 4)
	serves(t, m, q, p.use, true, api.OK)
	want := named(9)
	want.Table = api.Span{At: data + 512, Len: 16}
	p.was(t, want)
	used(t, m, q, 0, [2]uint32{3, 4})
}

// P17.3: more than Size chains: ErrJump, and nothing changes; so it is, too, if a device does that on its way.
func TestServeOfJump(t *testing.T) {
	for _, n := range counts(4) {
		m, q := at(t, 4, n)
		q.EventIdx = true
		event(m, q, n)
		for _, waiting := range []uint16{5, 6, 65535} {
			offer(m, q, n+waiting)
			row, ahead := all(t, m), *q
			serves(t, m, q, never(t), false, api.ErrJump)
			holds(t, m, row)
			if *q != ahead {
				t.Fatalf("Serve leaves %+v, not %+v", *q, ahead)
			}
		}
		offer(m, q, n)
		give(m, q, 1, 2)
		ask := wanted(m, q)
		serves(t, m, q, func(chain.Chain) (uint32, bool) {
			offer(m, q, n+6)
			return 3, true
		}, true, api.ErrJump)
		used(t, m, q, n, [2]uint32{1, 3})
		if q.Fetched != n+1 || wanted(m, q) != ask {
			t.Fatalf("Fetched %d, wanted %d", q.Fetched, wanted(m, q))
		}
	}
}

// P17.3: the answer hangs on how far Used came from the beginning on, not on the last chain alone.
func TestServeTellsFromTheBeginning(t *testing.T) {
	for _, n := range counts(8) {
		for past := -2; past <= 6; past++ {
			m, q := at(t, 8, n)
			q.EventIdx = true
			event(m, q, n+uint16(past))
			flags(m, q, uint16(past+2)%2)
			give(m, q, 1, 2, 3, 4)
			p := says(m, 1, 1, 1)
			serves(t, m, q, p.use, past >= 0 && past < 3, api.OK)
		}
	}
}

// P17.3: flags that don't want to be told, with other bits beside, and those that do.
func TestServeTellsByFlags(t *testing.T) {
	for w, want := range map[uint16]bool{0: true, 1: false, 2: true, 3: false, 0xfffe: true, 0xffff: false, 0x100: true, 0x101: false} {
		m, q := ready(t, 4)
		flags(m, q, w)
		give(m, q, 1, 2)
		serves(t, m, q, says(m, 1, 1).use, want, api.OK)
		give(m, q, 1)
		give(m, q, 9)
		serves(t, m, q, says(m, 1).use, want, api.ErrIndex)
		used(t, m, q, 2, [2]uint32{1, 1})
	}
}

// P17.3: a device that lays further chains while it is asked: they come in the same Serve, in order.
func TestServeOfChainsThatCome(t *testing.T) {
	m, q := at(t, 4, 65533)
	give(m, q, 0)
	var heads []uint16
	var want [][2]uint32
	left := 20
	serves(t, m, q, func(c chain.Chain) (uint32, bool) {
		i := int(c.Segments[0].Len) - 1
		heads = append(heads, uint16(i))
		for range 2 {
			if left > 0 && half(m, q.Layout.Avail+2)-q.Fetched < 4 {
				give(m, q, uint16(left*3%4))
				left--
			}
		}
		return uint32(len(heads)), true
	}, true, api.OK)
	if len(heads) != 21 || q.Used != 65533+21-65536 || q.Fetched != q.Used {
		t.Fatalf("%d chains; %+v", len(heads), *q)
	}
	for i, of := range heads[1:] {
		if int(of) != (20-i)*3%4 {
			t.Fatalf("the device is given %v", heads)
		}
	}
	for i := 17; i < 21; i++ {
		want = append(want, [2]uint32{uint32(heads[i]), uint32(i + 1)})
	}
	used(t, m, q, 65533+17-65536, want...)
}

// P17.3: a device that changes what the driver has laid: what stands there when a chain's turn comes is fetched, the head is told as it was fetched, and flags and events are what they are at the end.
func TestServeOfWhatChanges(t *testing.T) {
	m, q := ready(t, 4)
	give(m, q, 0, 1, 2)
	serves(t, m, q, func(c chain.Chain) (uint32, bool) {
		switch c.Segments[0].Len {
		case 1:
			head(m, q, 0, 2) // its own head, which is fetched already
			head(m, q, 1, 3)
			lay(t, m, q.Layout.Desc, 3, single(8))
			lay(t, m, q.Layout.Desc, 0, api.Desc{})
			return 10, true
		case 9:
			offer(m, q, 2) // the third one isn't offered any more
			flags(m, q, 1)
			return 11, true
		}
		t.Errorf("asked with %+v", c)
		return 0, true
	}, false, api.OK)
	used(t, m, q, 0, [2]uint32{0, 10}, [2]uint32{3, 11})
	m, q = ready(t, 4)
	q.EventIdx = true
	event(m, q, 9)
	give(m, q, 1)
	serves(t, m, q, func(chain.Chain) (uint32, bool) {
		event(m, q, 0)
		m.Store(q.Layout.Used+2, 2, 55) // how many were used is the queue's own to know
		return 1, true
	}, true, api.OK)
	used(t, m, q, 0, [2]uint32{1, 1})
}

// P17.3: a device that breaks a chain further on, or one that isn't laid yet.
func TestServeOfWhatIsBrokenOnTheWay(t *testing.T) {
	m, q := ready(t, 4)
	q.EventIdx = true
	give(m, q, 0, 1, 2)
	ask := wanted(m, q)
	serves(t, m, q, func(c chain.Chain) (uint32, bool) {
		if c.Segments[0].Len == 2 {
			lay(t, m, q.Layout.Desc, 2, api.Desc{Addr: data, Flags: next, Next: 2})
		}
		return 1, true
	}, true, api.ErrLoop)
	used(t, m, q, 0, [2]uint32{0, 1}, [2]uint32{1, 1})
	if q.Fetched != 3 || wanted(m, q) != ask {
		t.Errorf("Fetched %d, wanted %d", q.Fetched, wanted(m, q))
	}
}

// endless: a device that offers a chain more each time it is asked, till it was asked so often.
func endless(m *ram.RAM, q *Queue, asked *int, most int) func(chain.Chain) (uint32, bool) {
	return func(chain.Chain) (uint32, bool) {
		*asked++
		if *asked < most {
			give(m, q, uint16(*asked%4))
		}
		return uint32(*asked), true
	}
}

// P17.3: no more than 65537 chains are fetched in one Serve; that ends it without an error, and a later one goes on.
func TestServeOfTooMany(t *testing.T) {
	for _, n := range []uint16{0, 7, 65535} {
		m, q := at(t, 4, n)
		q.EventIdx = true
		event(m, q, n)
		give(m, q, 0)
		asked := 0
		device := endless(m, q, &asked, math.MaxInt)
		serves(t, m, q, device, true, api.OK)
		if asked != 65537 || q.Fetched != n+1 || q.Used != n+1 || wanted(m, q) != n+1 {
			t.Fatalf("asked %d times; %+v; wanted %d", asked, *q, wanted(m, q))
		}
		used(t, m, q, n-3, [2]uint32{1, 65534}, [2]uint32{2, 65535}, [2]uint32{3, 65536}, [2]uint32{0, 65537})
		p := says(m, 5)
		serves(t, m, q, p.use, false, api.OK)
		p.was(t, named(1))
		used(t, m, q, n+1, [2]uint32{1, 5})
	}
}

// P17.3: behind 65535, 65536 and 65537 chains and their end: of 65536 Used is what it was, and nothing is told.
func TestServeAllTheWayRound(t *testing.T) {
	for _, idx := range []bool{false, true} {
		for some, want := range map[int]bool{65535: true, 65536: false, 65537: true} {
			m, q := at(t, 4, 5)
			q.EventIdx = idx
			event(m, q, 5)
			give(m, q, 0)
			asked := 0
			serves(t, m, q, endless(m, q, &asked, some), want, api.OK)
			if asked != some || q.Used != uint16(5+some) || q.Fetched != q.Used {
				t.Errorf("%d chains: asked %d times; %+v", some, asked, *q)
			}
		}
	}
}

// P17.3: what would be refused behind 65537 chains isn't come to.
func TestServeEndsAheadOfAnError(t *testing.T) {
	for at, want := range map[int]api.Errno{65536: api.ErrIndex, 65537: api.OK} {
		m, q := ready(t, 4)
		give(m, q, 0)
		asked := 0
		_, e := q.Serve(m, func(chain.Chain) (uint32, bool) {
			asked++
			give(m, q, uint16(asked/at*9))
			return 0, true
		})
		if e != want || asked != at {
			t.Errorf("a broken chain behind %d: %d, asked %d times", at, e, asked)
		}
	}
}

// P17.3: Ask comes ahead of the answer: where what it puts is what the driver wants, that is what counts.
func TestServeAsksAheadOfTelling(t *testing.T) {
	m := made(t, small)
	// The last words of Avail and of Used are one; the entry 0 of Used is beside Avail.
	q := &Queue{Layout: api.Layout{Size: 4, Desc: base, Avail: base + 0x118, Used: base + 0x100}, Ready: true, EventIdx: true}
	lay(t, m, base, 2, single(2))
	give(m, q, 2)
	event(m, q, 0)
	serves(t, m, q, says(m, 5).use, false, api.OK)
	used(t, m, q, 0, [2]uint32{2, 5})
	if wanted(m, q) != 1 {
		t.Errorf("wanted: %d", wanted(m, q))
	}
}

// P17.3: a device that gets at the queue itself: whether it is Ready is asked at the end.
func TestServeOfQueueThatChanges(t *testing.T) {
	m, q := ready(t, 4)
	q.EventIdx = true
	give(m, q, 0, 1)
	ask := wanted(m, q)
	serves(t, m, q, func(chain.Chain) (uint32, bool) {
		q.Ready = false
		return 3, true
	}, false, api.OK)
	used(t, m, q, 0, [2]uint32{0, 3})
	if q.Fetched != 1 || wanted(m, q) != ask {
		t.Errorf("Fetched %d, wanted %d", q.Fetched, wanted(m, q))
	}
	for _, done := range []bool{false, true} {
		m, q := ready(t, 4)
		q.EventIdx = true
		give(m, q, 0, 1)
		row := all(t, m)
		serves(t, m, q, func(chain.Chain) (uint32, bool) {
			q.Reset()
			return 3, done
		}, false, api.OK)
		holds(t, m, row)
	}
	m, q = ready(t, 4)
	give(m, q, 0, 1)
	serves(t, m, q, func(chain.Chain) (uint32, bool) {
		q.Layout.Avail++
		return 3, true
	}, false, api.ErrLayout)
}

// P17.3: Fetched is as it was ahead of that Fetch, even if the device gets at it.
func TestServePutsFetchedBack(t *testing.T) {
	m, q := at(t, 4, 65535)
	give(m, q, 0, 1)
	serves(t, m, q, func(chain.Chain) (uint32, bool) {
		q.Fetched = 1000
		return 0, false
	}, false, api.OK)
	if q.Fetched != 65535 {
		t.Errorf("Fetched: %d", q.Fetched)
	}
}

// P17.3: what a device writes into a chain's pieces stands there, also where a later chain or the queue's own parts lie.
func TestServeOfChainsThatNameTheQueue(t *testing.T) {
	m, q := ready(t, 4)
	lay(t, m, q.Layout.Desc, 0, api.Desc{Addr: q.Layout.Avail + 6, Len: 2, Flags: write})
	lay(t, m, q.Layout.Desc, 1, api.Desc{Addr: q.Layout.Used, Len: 38, Flags: write})
	give(m, q, 0, 2)
	var seen []chain.Chain
	serves(t, m, q, func(c chain.Chain) (uint32, bool) {
		seen = append(seen, c)
		_, room := c.Sizes()
		row := make([]byte, room)
		for i := range row {
			row[i] = byte(1 - i)
		}
		if room == 2 {
			row[1] = 0
		}
		c.Scatter(m, 0, row)
		return uint32(room), true
	}, true, api.OK)
	if len(seen) != 2 || seen[1].Segments[0].At != q.Layout.Used {
		t.Fatalf("asked with %+v", seen)
	}
	if id, count := entry(m, q, 1); id != 1 || count != 38 || told(m, q) != 2 {
		t.Errorf("%d, %d; %d were used", id, count, told(m, q))
	}
}

// P17.3, P17.4, held against the model: queues and devices by chance; what is told to be used are the heads that were fetched and taken, in order, each once.
func TestServeAgainstModel(t *testing.T) {
	chance := rand.New(rand.NewSource(19))
	seen, yes, taken, stays := map[api.Errno]int{}, 0, 0, 0
	for range 6000 {
		m, q := someQueue(t, chance)
		for range 3 {
			other, from := *q, q.Used
			answers := someAnswers(chance, q)
			a, b := &player{m: m, answers: answers}, &player{m: m.Copy(), answers: answers}
			want, e, heads := modelServe(b.m, &other, b.use)
			serves(t, m, q, a.use, want, e)
			a.was(t, b.chains...)
			if *q != other || !ram.Same(m, b.m) {
				t.Fatalf("Serve leaves %+v, not %+v, or another memory", *q, other)
			}
			if q.Used != from+uint16(len(heads)) || len(b.chains)-len(heads) > 1 {
				t.Fatalf("%d were told, of %d chains", q.Used-from, len(b.chains))
			}
			seen[e]++
			taken += len(heads)
			if want {
				yes++
			}
			if len(b.chains) > len(heads) {
				stays++
			}
		}
	}
	for _, e := range []api.Errno{api.OK, api.ErrLayout, api.ErrPlace, api.ErrJump, api.ErrIndex, api.ErrLoop, api.ErrOrder, api.ErrNested} {
		if seen[e] < 30 {
			t.Errorf("the error %d: %d times", e, seen[e])
		}
	}
	if yes < 500 || taken < 5000 || stays < 500 {
		t.Errorf("true %d times, %d chains, %d stayed", yes, taken, stays)
	}
}

// P17.4: of chains that come and go for long, each head that was fetched is told once, in order, whatever Size.
func TestToldInOrder(t *testing.T) {
	chance := rand.New(rand.NewSource(20))
	for _, size := range sizes {
		m, q := at(t, size, 65536-300)
		var offered, seen []uint16
		for len(offered) < 1000 {
			for range chance.Intn(size + 1 - int(half(m, q.Layout.Avail+2)-q.Fetched)) {
				of := uint16(chance.Intn(size))
				offered = append(offered, of)
				give(m, q, of)
			}
			from, left := q.Used, chance.Intn(size+2)
			_, e := q.Serve(m, func(c chain.Chain) (uint32, bool) {
				if left == 0 {
					return 0, false
				}
				left--
				return uint32(c.Segments[0].Len), true
			})
			if e != api.OK || q.Fetched != q.Used {
				t.Fatalf("Serve: %d; %+v", e, *q)
			}
			for n := from; n != q.Used; n++ {
				id, count := entry(m, q, n)
				if count != id+1 {
					t.Fatalf("the number %d used: %d, %d", n, id, count)
				}
				seen = append(seen, uint16(id))
			}
			if len(seen) > len(offered) || !slices.Equal(seen, offered[:len(seen)]) {
				t.Fatalf("told %v, of %v", seen, offered)
			}
		}
	}
}
