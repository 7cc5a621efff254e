package ram

import (
	"bytes"
	"math"
	"math/rand"
	"slices"
	"testing"

	"vireo/api"
)

// model is a memory as plainly as may be: a row of bytes and two lists.
type model struct {
	bytes []byte
	log   Log
	on    bool
}

func (x *model) tell(list *[]api.Span, at, n uint64) {
	if x.on && n > 0 && len(*list) < api.MaxLog {
		*list = append(*list, api.Span{At: at, Len: n})
	}
}

// piece: n bytes from an address on; nothing and false: they aren't there.
func (x *model) piece(at, n uint64) ([]byte, bool) {
	size := uint64(len(x.bytes))
	if at < base || at > base+size || n > base+size-at {
		return nil, false
	}
	return x.bytes[at-base : at-base+n], true
}

// P2.5, and P2.2 and P2.3 once more: what is put at a piece is read there, and nothing beside it is another one.
func TestAgainstRowOfBytes(t *testing.T) {
	for seed := range int64(20) {
		r := rand.New(rand.NewSource(seed))
		x := &model{bytes: make([]byte, 12288)}
		m, l := made(t, 12288), &Log{}
		for range 1200 {
			turn(t, r, m, l, x)
		}
		if got := all(t, m); !bytes.Equal(got, x.bytes) {
			t.Fatalf("seed %d: the bytes are others", seed)
		}
		if !slices.Equal(l.Writes, x.log.Writes) || !slices.Equal(l.Reads, x.log.Reads) {
			t.Fatalf("seed %d: the pieces are others", seed)
		}
	}
}

// turn does one thing to a memory and to its model, and holds the answers against one another.
func turn(t *testing.T, r *rand.Rand, m *RAM, l *Log, x *model) {
	t.Helper()
	edges := []uint64{base, second, second + 4096, base + 12288}
	at := edges[r.Intn(len(edges))] + uint64(r.Intn(24)) - 12
	n := []int{1, 2, 4, 8, 0, 3, 9, -1}[r.Intn(8)]
	long := uint64(r.Intn(9000))
	switch r.Intn(6) {
	case 0:
		got, ok := m.Load(at, n)
		want, is := uint64(0), isWidth(n)
		if p, there := x.piece(at, uint64(n)); is && there {
			for i, b := range p {
				want |= uint64(b) << (8 * i)
			}
		} else {
			is = false
		}
		if got != want || ok != is {
			t.Fatalf("Load(%#x, %d): %#x, %v", at, n, got, ok)
		}
	case 1:
		w := r.Uint64()
		p, is := x.piece(at, uint64(n))
		is = is && isWidth(n)
		if ok := m.Store(at, n, w); ok != is {
			t.Fatalf("Store(%#x, %d): %v", at, n, ok)
		}
		for i := range p {
			if is {
				p[i] = byte(w >> (8 * i))
			}
		}
		if is {
			x.tell(&x.log.Writes, at, uint64(n))
		}
	case 2, 3:
		got, ok := m.Read(at, long)
		want, is := x.piece(at, long)
		if ok != is || !bytes.Equal(got, want) {
			t.Fatalf("Read(%#x, %d): %v", at, long, ok)
		}
		if is {
			x.tell(&x.log.Reads, at, long)
		}
	case 4:
		data := make([]byte, long)
		r.Read(data)
		p, is := x.piece(at, long)
		if ok := m.Write(at, data); ok != is {
			t.Fatalf("Write(%#x) of %d bytes: %v", at, long, ok)
		}
		copy(p, data)
		if is {
			x.tell(&x.log.Writes, at, long)
		}
	case 5:
		x.on = r.Intn(3) > 0
		if x.on {
			m.Watch(l)
		} else {
			m.Watch(nil)
		}
	}
}

// P2.5: each byte of a memory is one of its own.
func TestEveryByteIsItsOwn(t *testing.T) {
	m := made(t, 8192)
	for _, n := range []int{1, 2, 4, 8} {
		for at := base; m.Has(at, uint64(n)); at += 61 {
			behind := m.Copy()
			if !behind.Store(at, n, math.MaxUint64) {
				t.Fatalf("Store(%#x, %d): false", at, n)
			}
			if got := Differ(m, behind, 9); !slices.Equal(got, []api.Span{{At: at, Len: uint64(n)}}) {
				t.Fatalf("Store(%#x, %d) changes %v", at, n, got)
			}
		}
	}
}

// P1: every call ends, and none panics, whatever it is given.
func TestEveryArgument(t *testing.T) {
	m, l := filled(t, 8192), &Log{}
	m.Watch(l)
	ints := append(wrongWidths(), 1, 2, 4, 8)
	for _, at := range someWords() {
		New(at)
		for _, n := range ints {
			m.Load(at, n)
			m.Store(at, n, at)
			Differ(m, m, n)
		}
		for _, n := range someWords() {
			m.Has(at, n)
			m.Read(at, n)
		}
		for _, n := range []int{0, 1, 4096, 8192, 8193} {
			m.Write(at, make([]byte, n))
		}
	}
}

// P1: what New answers beside an error is none, and does nothing.
func TestNone(t *testing.T) {
	none, _ := New(1)
	some := made(t, 4096)
	none.Watch(&Log{})
	none.Watch(nil)
	if none.Size() != 0 || none.Has(base, 1) || none.Store(base, 1, 1) || none.Write(base, []byte{1}) || none.Copy() != nil {
		t.Errorf("none has something")
	}
	if _, ok := none.Load(base, 1); ok {
		t.Errorf("none has a word")
	}
	if _, ok := none.Read(base, 1); ok {
		t.Errorf("none has bytes")
	}
	none.Read(base, 0)
	none.Write(base, nil)
	if Same(none, some) || Same(some, none) || !Same(none, none) {
		t.Errorf("Same of none")
	}
	if len(Differ(none, some, 9))+len(Differ(some, none, 9))+len(Differ(none, none, 9)) != 0 {
		t.Errorf("Differ of none")
	}
}

// P2, rule 3: behind a refused call a memory is what it was, and goes on as it did.
func TestRefusedCallsChangeNothing(t *testing.T) {
	for _, m := range []*RAM{made(t, 8192), filled(t, 8192)} {
		ahead := m.Copy()
		for _, at := range []uint64{0, base - 1, base + 8191, base + 8192, math.MaxUint64} {
			m.Store(at, 8, math.MaxUint64)
			m.Store(base, 3, math.MaxUint64)
			m.Write(at, bytes.Repeat([]byte{0xff}, 9000))
			m.Read(at, 9000)
			m.Load(at, 8)
		}
		if !Same(m, ahead) || len(Differ(m, ahead, 1)) != 0 {
			t.Errorf("refused calls have changed a memory")
		}
	}
}

// P2, rule 4: bytes that are handed in stay as they are, with their spare room, and aren't kept.
func TestBytesThatAreWritten(t *testing.T) {
	m := made(t, 12288)
	row := pattern(12288)
	data := row[:4200]
	m.Write(second-50, data)
	m.Write(base+12280, data) // refused
	m.Read(second-50, 4200)
	if !bytes.Equal(row, pattern(12288)) {
		t.Errorf("Write changed its bytes")
	}
	clear(row)
	if got, _ := m.Read(second-50, 4200); !bytes.Equal(got, pattern(4200)) {
		t.Errorf("Write kept its bytes")
	}
	m.Store(second-1, 8, 0)
	if slices.Max(row) != 0 || slices.Max(data) != 0 {
		t.Errorf("a Store is seen in bytes that were handed in")
	}
}

// P2, rule 4: bytes that are told are a copy, with their spare room.
func TestBytesThatAreRead(t *testing.T) {
	m := filled(t, 8192)
	for _, n := range []uint64{1, 5, 4096, 8192} {
		first, _ := m.Read(base, n)
		next, _ := m.Read(base, n)
		kept := slices.Clone(next)
		for i := range first[:cap(first)] {
			first[:cap(first)][i] = 0xff
		}
		if !bytes.Equal(next, kept) || !bytes.Equal(all(t, m), pattern(8192)) {
			t.Errorf("Read of %d bytes shares memory", n)
		}
		m.Store(base, 1, 0xee)
		if !bytes.Equal(next, kept) {
			t.Errorf("a Store is seen in bytes that were told")
		}
		m.Store(base, 1, 1)
	}
	blank := made(t, 4096)
	got, _ := blank.Read(base, 16)
	got[0] = 1
	if w, _ := blank.Load(base, 1); w != 0 {
		t.Errorf("Read of a page that was never written shares memory")
	}
}

func TestPiecesThatAreTold(t *testing.T) {
	a := filled(t, 8192)
	b := put(a, base, base+5, second)
	first, next := Differ(a, b, 9), Differ(a, b, 9)
	for i := range first[:cap(first)] {
		first[:cap(first)][i] = api.Span{}
	}
	if want := []api.Span{{At: base, Len: 1}, {At: base + 5, Len: 1}, {At: second, Len: 1}}; !slices.Equal(next, want) || !slices.Equal(Differ(a, b, 9), want) {
		t.Errorf("two answers of Differ share memory")
	}
}

// P2, rule 4: a log's lists get pieces, but what lies in their spare room is the caller's.
func TestSpareRoomOfLogs(t *testing.T) {
	mine := api.Span{At: 77, Len: 77}
	row := []api.Span{mine, mine, mine, mine}
	l := &Log{Writes: row[:1], Reads: row[:0]}
	m := made(t, 4096)
	m.Watch(l)
	m.Store(base, 1, 1)
	m.Read(base, 2)
	if !slices.Equal(row, []api.Span{mine, mine, mine, mine}) {
		t.Errorf("the spare room of a log's lists is changed: %v", row)
	}
	if !slices.Equal(l.Writes, []api.Span{mine, {At: base, Len: 1}}) || !slices.Equal(l.Reads, []api.Span{{At: base, Len: 2}}) {
		t.Errorf("a log whose lists share memory: %v", l)
	}
}

// Rule 4: what a memory answers hangs on its own calls alone, and asking changes nothing.
func TestAskingChangesNothing(t *testing.T) {
	a, b := filled(t, 8192), put(filled(t, 8192), base+9)
	for range 3 {
		if Same(a, b) || !slices.Equal(Differ(a, b, 9), []api.Span{{At: base + 9, Len: 1}}) {
			t.Fatalf("asking once more tells something else")
		}
		a.Copy()
		a.Read(base, 8192)
		b.Has(base, 1)
	}
	if !bytes.Equal(all(t, a), pattern(8192)) {
		t.Errorf("asking changed a memory")
	}
}
