package chain

import (
	"bytes"
	"math/rand"
	"slices"
	"testing"

	"vireo/api"
	"vireo/ram"
)

// P16.1 to P16.4, held against the model: queues by chance, of which each error comes about.
func TestAgainstModel(t *testing.T) {
	chance := rand.New(rand.NewSource(16))
	seen := map[api.Errno]int{}
	tables, longest := 0, 0
	for range 3000 {
		m, l := someQueue(t, chance)
		row := all(t, m)
		for range 12 {
			head, allowed := chance.Intn(l.Size+2)-1, chance.Intn(6) > 0
			want, e := modelWalk(row, l, head, allowed)
			seen[e]++
			if e != api.OK {
				refuses(t, m, l, head, allowed, e)
				continue
			}
			walks(t, m, l, head, allowed, want)
			follows(t, row, want)
			longest = max(longest, len(want.Segments))
			if want.Table.Len > 0 {
				tables++
			}
		}
		holds(t, m, row)
	}
	for _, e := range []api.Errno{api.OK, api.ErrIndex, api.ErrLoop, api.ErrNested, api.ErrTable, api.ErrOrder, api.ErrPlace} {
		if seen[e] < 50 {
			t.Errorf("the error %d: %d times", e, seen[e])
		}
	}
	if tables < 100 || longest < 6 {
		t.Errorf("%d tables, at most %d segments", tables, longest)
	}
}

// follows: P16.3 of a chain of a walk.
func follows(t *testing.T, row []byte, c Chain) {
	t.Helper()
	written := false
	for _, s := range c.Segments {
		if !within(row, s.At, s.Len) || written && !s.Write {
			t.Fatalf("P16.3 of %+v", c)
		}
		written = written || s.Write
	}
	if len(c.Segments) > 511 {
		t.Fatalf("%d segments", len(c.Segments))
	}
}

// P16.2, P16.4: bytes of chains by chance, held against the model; Scatter writes within segments to be written alone.
func TestBytesAgainstModel(t *testing.T) {
	chance := rand.New(rand.NewSource(17))
	done := 0
	for range 1500 {
		m, l := someQueue(t, chance)
		c, e := Walk(m, l, chance.Intn(l.Size), true)
		if e != api.OK {
			continue
		}
		done++
		read, written := c.Sizes()
		if read != uint64(len(flat(c, false))) || written != uint64(len(flat(c, true))) {
			t.Fatalf("Sizes of %+v: %d, %d", c, read, written)
		}
		for range 4 {
			from := chance.Uint64() % (read + 2)
			gathers(t, m, c, from, chance.Uint64()%(read-min(read, from)+2))
			from = chance.Uint64() % (written + 2)
			row := make([]byte, chance.Uint64()%(written-min(written, from)+2))
			chance.Read(row)
			scatters(t, m, c, from, row)
		}
	}
	if done < 200 {
		t.Errorf("%d chains", done)
	}
}

// P16.4, on the memory's own word: what is written lies in segments to be written.
func TestScatterWritesWithin(t *testing.T) {
	chance := rand.New(rand.NewSource(18))
	for range 1500 {
		m, l := someQueue(t, chance)
		c, _ := Walk(m, l, chance.Intn(l.Size), true)
		_, written := c.Sizes()
		log := &ram.Log{}
		m.Watch(log)
		c.Scatter(m, 0, make([]byte, written))
		c.Scatter(m, 0, make([]byte, written+1))
		m.Watch(nil)
		for _, w := range log.Writes {
			if !slices.ContainsFunc(c.Segments, func(s api.Segment) bool {
				return s.Write && s.At <= w.At && w.At+w.Len <= s.At+s.Len
			}) {
				t.Fatalf("%+v is written, of %+v", w, c)
			}
		}
	}
}

// P1: every walk ends, whatever bytes stand in the memory.
func TestAnyBytes(t *testing.T) {
	chance := rand.New(rand.NewSource(19))
	m := made(t, small)
	row := make([]byte, small)
	for range 300 {
		chance.Read(row)
		m.Write(base, row)
		l := queue(t, sizes[chance.Intn(len(sizes))], base+16*uint64(chance.Intn(256)))
		for range 20 {
			head, allowed := chance.Intn(l.Size), chance.Intn(2) == 0
			want, e := modelWalk(row, l, head, allowed)
			if got, is := Walk(m, l, head, allowed); is != e || !same(got, want) {
				t.Fatalf("Walk of %+v, %d: %+v, %d, not %+v, %d", l, head, got, is, want, e)
			}
		}
	}
}

// P1: of layouts that may not be a walk ends, too, and neither it nor anything panics: whatever the Size, chains that lead to themselves are left.
func TestLayoutsThatMayNotBe(t *testing.T) {
	m := made(t, small)
	for at := uint64(base); at < end; at += 16 {
		lay(t, m, at, 0, api.Desc{Addr: base, Len: 1, Flags: next, Next: 0})
	}
	for _, size := range append([]int{0, 3, 255}, strange...) {
		for _, at := range []uint64{base, base + 1, base - 8, end - 16, end, 0, ones} {
			for _, head := range append([]int{0, 1, 255}, strange...) {
				for _, memory := range []*ram.RAM{m, nil} {
					if c, e := Walk(memory, api.Layout{Size: size, Desc: at}, head, true); e != api.OK && !same(c, Chain{}) {
						t.Fatalf("%+v beside %d", c, e)
					}
				}
			}
		}
	}
}

// P1: chains that no walk made, and memories that aren't theirs, make nothing panic; nothing is told or written where it is refused.
func TestChainsOfNoWalk(t *testing.T) {
	numbers := []uint64{0, 1, 2, base - 1, base, base + 5, end - 1, end, 1 << 62, 1 << 63, ones - base, ones - 1, ones}
	other := made(t, page)
	for _, at := range numbers {
		for _, n := range numbers {
			for _, k := range numbers {
				m := filled(t)
				c := Chain{Segments: []api.Segment{{At: base, Len: 4, Write: true}, {At: at, Len: n}, {At: k, Len: n, Write: true}, {At: at, Len: k}}}
				c.Sizes()
				for _, memory := range []*ram.RAM{m, other, nil} {
					row, ahead := []byte{1, 2, 3, 4, 5}, memory.Copy()
					if got, ok := c.Gather(memory, k, 5); !ok && len(got) > 0 {
						t.Fatalf("%v beside false", got)
					}
					c.Gather(memory, 1, k)
					if !c.Scatter(memory, k, row) && !ram.Same(memory, ahead) {
						t.Fatalf("a refused Scatter has written")
					}
					if !c.Scatter(memory, 0, row) && !ram.Same(memory, ahead) {
						t.Fatalf("a refused Scatter has written")
					}
				}
			}
		}
	}
}

// P1, rule 3: what a chain names that no walk along this memory made is refused whole, if it isn't there.
func TestSegmentsThatAreNotThere(t *testing.T) {
	m, row := filled(t), []byte{1, 2, 3, 4, 5, 6, 7, 8}
	for _, at := range []uint64{0, base - 1, end - 3, end, ones - 1} {
		c := Chain{Segments: []api.Segment{{At: base, Len: 4}, {At: at, Len: 4}, {At: base, Len: 4, Write: true}, {At: at, Len: 4, Write: true}}}
		watched(t, m, nil, nil, func() {
			if got, ok := c.Gather(m, 0, 8); ok || len(got) > 0 {
				t.Errorf("Gather with %#x: %v, %v", at, got, ok)
			}
			if c.Scatter(m, 0, row) {
				t.Errorf("Scatter with %#x: true", at)
			}
		})
	}
	holds(t, m, pattern(small))
}

// P2, rule 3: asking changes neither a byte nor a chain; refused calls are told to no log.
func TestAskingChangesNothing(t *testing.T) {
	chance := rand.New(rand.NewSource(20))
	for range 500 {
		m, l := someQueue(t, chance)
		row := all(t, m)
		for head := range l.Size {
			c, _ := Walk(m, l, head, true)
			ahead := slices.Clone(c.Segments)
			read, written := c.Sizes()
			c.Gather(m, 0, read)
			watched(t, m, nil, nil, func() {
				c.Sizes()
				c.Gather(m, 1, read)
				c.Gather(m, read+1, 0)
				c.Scatter(m, 1, make([]byte, written))
				c.Scatter(m, written+1, nil)
			})
			if again, _ := Walk(m, l, head, true); !same(c, again) || !slices.Equal(c.Segments, ahead) {
				t.Fatalf("%+v, then %+v", c, again)
			}
		}
		holds(t, m, row)
	}
}

// P2, rule 4: what Walk tells is new memory, with its spare room.
func TestWalkTellsNewMemory(t *testing.T) {
	m, l := filled(t), queue(t, 8, base)
	want := chained(t, m, l, toRead(data, 1), toRead(data, 2), toWrite(data, 3), toWrite(data, 4), toWrite(data, 5))
	kept := slices.Clone(want.Segments)
	other := found(t, m, l, 0)
	rest := other.Segments[:cap(other.Segments)]
	for i := range rest {
		rest[i] = api.Segment{At: 1, Len: 1}
	}
	if !slices.Equal(want.Segments, kept) || !slices.Equal(found(t, m, l, 0).Segments, kept) {
		t.Errorf("two chains share memory")
	}
}

// P2, rule 4: what Gather tells is the asker's, with its spare room.
func TestGatherTellsNewMemory(t *testing.T) {
	m, l := filled(t), queue(t, 4, base)
	for _, list := range [][]api.Desc{{toRead(data, 9)}, {toRead(data, 9), toRead(data+50, 9)}} {
		c := chained(t, m, l, list...)
		row := all(t, m)
		n := uint64(9 * len(list))
		first, _ := c.Gather(m, 0, n)
		again, _ := c.Gather(m, 0, n)
		kept := bytes.Clone(again)
		rest := first[:cap(first)]
		for i := range rest {
			rest[i] = 0xee
		}
		if !bytes.Equal(again, kept) {
			t.Errorf("two answers share memory")
		}
		holds(t, m, row)
		m.Store(data, 8, ones)
		if !bytes.Equal(again, kept) {
			t.Errorf("what was told hangs on the memory")
		}
		m.Write(base, row)
	}
}

// P2, rule 4: what Scatter is given isn't changed, with its spare room, and isn't kept.
func TestScatterKeepsNothing(t *testing.T) {
	m, l := filled(t), queue(t, 4, base)
	c := chained(t, m, l, toWrite(data, 3), toWrite(data+1, 3), toWrite(data+50, 3))
	row := []byte{1, 2, 3, 4, 5, 6, 7, 8, 9, 10, 11, 12}
	kept := bytes.Clone(row)
	for n := range 11 {
		c.Scatter(m, 0, row[:n])
		if !bytes.Equal(row, kept) {
			t.Fatalf("Scatter of %d bytes: %v", n, row)
		}
	}
	if !c.Scatter(m, 0, row[:9]) {
		t.Fatalf("Scatter: false")
	}
	want := all(t, m)
	for i := range row {
		row[i] = 0xee
	}
	holds(t, m, want)
	m.Store(data, 8, ones)
	if !bytes.Equal(row, bytes.Repeat([]byte{0xee}, 12)) {
		t.Errorf("what was given is kept: %v", row)
	}
}

// P2, rule 4: what is told hangs on the memory that is given, not on another one.
func TestMemoriesOfTheirOwn(t *testing.T) {
	a, b, l := made(t, small), made(t, small), queue(t, 4, base)
	first := chained(t, a, l, toRead(data, 2), toWrite(data, 2))
	chained(t, b, l, toRead(data, 3))
	b.Write(data, []byte{7, 8, 9})
	if got, ok := first.Gather(a, 0, 2); !ok || !bytes.Equal(got, []byte{0, 0}) {
		t.Errorf("Gather: %v, %v", got, ok)
	}
	first.Scatter(a, 0, []byte{1, 2})
	if got, ok := found(t, b, l, 0).Gather(b, 0, 3); !ok || !bytes.Equal(got, []byte{7, 8, 9}) {
		t.Errorf("Gather of the other: %v, %v", got, ok)
	}
	walks(t, a, l, 0, true, first)
}
