package ram

import (
	"bytes"
	"math"
	"slices"
	"testing"

	"vireo/api"
)

// P2.3

func TestWatch(t *testing.T) {
	m, l := made(t, 8192), &Log{}
	m.Store(base, 8, 1)
	m.Write(base, []byte{1, 2})
	m.Read(base, 3)
	m.Watch(l)
	if len(l.Writes) != 0 || len(l.Reads) != 0 {
		t.Errorf("what was ahead of Watch is told: %v", l)
	}
	m.Store(base+1, 1, 1)
	m.Store(base+2, 2, 1)
	m.Store(second-1, 4, 0) // across two pages, and what was there
	m.Store(base+8184, 8, 1)
	m.Write(second-3, make([]byte, 7))
	m.Write(base, make([]byte, 8192))
	m.Write(base, make([]byte, 8192)) // the same piece once more
	m.Read(base+5, 3)
	m.Read(base, 8192)
	m.Read(second-1, 2)
	m.Read(second-1, 2)
	writes := []api.Span{{At: base + 1, Len: 1}, {At: base + 2, Len: 2}, {At: second - 1, Len: 4}, {At: base + 8184, Len: 8}, {At: second - 3, Len: 7}, {At: base, Len: 8192}, {At: base, Len: 8192}}
	reads := []api.Span{{At: base + 5, Len: 3}, {At: base, Len: 8192}, {At: second - 1, Len: 2}, {At: second - 1, Len: 2}}
	if !slices.Equal(l.Writes, writes) || !slices.Equal(l.Reads, reads) {
		t.Errorf("Watch: %v", l)
	}
}

func TestWatchTellsNothing(t *testing.T) {
	m, l := filled(t, 8192), &Log{}
	m.Watch(l)
	m.Write(base, nil)
	m.Write(base+8192, []byte{})
	m.Read(base, 0)
	m.Read(base+8192, 0)
	m.Load(base, 8) // a word that is loaded isn't a piece that is read
	m.Load(second-1, 2)
	m.Has(base, 1)
	m.Size()
	Same(m, m.Copy())
	Differ(m, made(t, 8192), 3)
	if len(l.Writes) != 0 || len(l.Reads) != 0 {
		t.Errorf("what puts and reads no bytes is told: %v", l)
	}
}

func TestWatchTellsNothingThatIsRefused(t *testing.T) {
	m, l := filled(t, 8192), &Log{}
	m.Watch(l)
	for _, n := range wrongWidths() {
		m.Store(base, n, 1)
	}
	for _, at := range []uint64{0, base - 1, base + 8191, base + 8192, base + 8193, math.MaxUint64, math.MaxUint64 - 1} {
		m.Store(at, 2, 1)
		m.Write(at, []byte{1, 2})
		m.Read(at, 2)
		m.Read(at, math.MaxUint64)
		m.Read(at, math.MaxUint64-at+base+1)
	}
	if len(l.Writes) != 0 || len(l.Reads) != 0 {
		t.Errorf("what was refused is told: %v", l)
	}
}

func TestWatchUpToMaxLog(t *testing.T) {
	m, l := made(t, 12288), &Log{}
	m.Watch(l)
	for i := range uint64(api.MaxLog - 1) {
		m.Store(base+i, 1, i)
		m.Read(base+i+1, 1)
	}
	if len(l.Writes) != api.MaxLog-1 || len(l.Reads) != api.MaxLog-1 {
		t.Errorf("one less than MaxLog: %d, %d", len(l.Writes), len(l.Reads))
	}
	m.Write(base+8000, []byte{1, 2, 3})
	m.Write(base+8003, []byte{4, 5, 6})
	if len(l.Writes) != api.MaxLog || l.Writes[api.MaxLog-1] != (api.Span{At: base + 8000, Len: 3}) {
		t.Errorf("Writes: %d, the last %v", len(l.Writes), l.Writes[len(l.Writes)-1])
	}
	if len(l.Reads) != api.MaxLog-1 {
		t.Errorf("what was written is told as read: %d", len(l.Reads))
	}
	// A list that is full keeps neither the other from growing nor the memory from doing its work.
	m.Read(base+9000, 5)
	m.Store(base+8006, 2, 0x0807)
	got, ok := m.Read(base+8000, 8)
	if !ok || !bytes.Equal(got, []byte{1, 2, 3, 4, 5, 6, 7, 8}) {
		t.Errorf("Read behind a full log: %v, %v", got, ok)
	}
	if len(l.Reads) != api.MaxLog || l.Reads[api.MaxLog-1] != (api.Span{At: base + 9000, Len: 5}) {
		t.Errorf("Reads: %d, the last %v", len(l.Reads), l.Reads[len(l.Reads)-1])
	}
	if len(l.Writes) != api.MaxLog || l.Writes[0] != (api.Span{At: base, Len: 1}) || l.Reads[0] != (api.Span{At: base + 1, Len: 1}) {
		t.Errorf("the first pieces aren't kept: %d, %v, %v", len(l.Writes), l.Writes[0], l.Reads[0])
	}
}

func TestWatchNil(t *testing.T) {
	m, l := made(t, 4096), &Log{}
	m.Watch(nil)
	m.Store(base, 1, 1)
	m.Watch(l)
	m.Store(base+1, 1, 1)
	m.Read(base+1, 1)
	m.Watch(nil)
	m.Store(base+2, 1, 1)
	m.Write(base+3, []byte{1})
	m.Read(base, 4)
	if !slices.Equal(l.Writes, []api.Span{{At: base + 1, Len: 1}}) || !slices.Equal(l.Reads, []api.Span{{At: base + 1, Len: 1}}) {
		t.Errorf("Watch(nil): %v", l)
	}
	m.Watch(l) // once more: what is told already stays
	m.Store(base+4, 4, 1)
	if !slices.Equal(l.Writes, []api.Span{{At: base + 1, Len: 1}, {At: base + 4, Len: 4}}) {
		t.Errorf("Watch once more: %v", l)
	}
}

func TestWatchByAnotherLog(t *testing.T) {
	m, first, next := made(t, 4096), &Log{}, &Log{}
	m.Watch(first)
	m.Store(base, 1, 1)
	m.Watch(next)
	m.Store(base+1, 1, 1)
	if !slices.Equal(first.Writes, []api.Span{{At: base, Len: 1}}) || !slices.Equal(next.Writes, []api.Span{{At: base + 1, Len: 1}}) {
		t.Errorf("Watch by another log: %v, %v", first, next)
	}
}

func TestWatchGoesOnWithALogThatHolds(t *testing.T) {
	m := made(t, 4096)
	full := &Log{Writes: make([]api.Span, api.MaxLog+1), Reads: make([]api.Span, api.MaxLog-1)}
	m.Watch(full)
	for range 3 {
		m.Store(base, 1, 1)
		m.Read(base, 1)
	}
	if len(full.Writes) != api.MaxLog+1 || len(full.Reads) != api.MaxLog {
		t.Errorf("a log that is full already: %d, %d", len(full.Writes), len(full.Reads))
	}
}

func TestCopy(t *testing.T) {
	m, l := filled(t, 12288), &Log{}
	m.Watch(l)
	c := m.Copy()
	if c == nil || c == m || c.Size() != 12288 || !bytes.Equal(all(t, c), pattern(12288)) {
		t.Fatalf("Copy isn't alike")
	}
	// What is put into the one is not seen in the other, in a page that is kept already.
	m.Store(base, 8, 0)
	c.Store(base+8, 8, 0)
	c.Write(second-1, []byte{0, 0})
	inOriginal, inCopy := pattern(12288), pattern(12288)
	clear(inOriginal[:8])
	clear(inCopy[8:16])
	clear(inCopy[4095:4097])
	if !bytes.Equal(all(t, m), inOriginal) || !bytes.Equal(all(t, c), inCopy) {
		t.Errorf("a copy and its original share bytes")
	}
	c.Read(base, 1)
	if !slices.Equal(l.Writes, []api.Span{{At: base, Len: 8}}) || len(l.Reads) != 0 {
		t.Errorf("a copy is watched: %v", l)
	}
}

func TestCopyOfBlankPages(t *testing.T) {
	m := made(t, 8192)
	c := m.Copy()
	m.Store(base, 1, 1)
	c.Store(second, 1, 2)
	again := c.Copy()
	c.Store(second, 1, 3)
	for _, x := range []struct {
		name string
		of   *RAM
		want [2]uint64
	}{{"original", m, [2]uint64{1, 0}}, {"copy", c, [2]uint64{0, 3}}, {"copy of the copy", again, [2]uint64{0, 2}}} {
		first, _ := x.of.Load(base, 1)
		other, _ := x.of.Load(second, 1)
		if [2]uint64{first, other} != x.want {
			t.Errorf("%s: %d, %d", x.name, first, other)
		}
	}
	if !c.Has(base+8191, 1) || c.Has(base+8192, 1) {
		t.Errorf("a copy has another size")
	}
}

func TestCopyIsWatchedByItsOwnLog(t *testing.T) {
	m, l := made(t, 4096), &Log{}
	c := m.Copy()
	c.Watch(l)
	m.Store(base, 1, 1)
	c.Store(base+1, 1, 1)
	if !slices.Equal(l.Writes, []api.Span{{At: base + 1, Len: 1}}) {
		t.Errorf("a copy's log: %v", l)
	}
}
