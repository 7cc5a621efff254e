package fifo

import (
	"bytes"
	"math"
	"math/rand"
	"testing"

	"vireo/api"
)

// someNumber: mostly a small one; now and then anything, below 0 too.
func someNumber(chance *rand.Rand, small int) int {
	if chance.Intn(4) == 0 {
		return int(chance.Uint64()) >> chance.Intn(64)
	}
	return chance.Intn(small + 2)
}

func someBytes(chance *rand.Rand, n int) []byte {
	out := make([]byte, n)
	chance.Read(out)
	return out
}

// P1: every call ends and none panics, whatever it is given; rule 2: beside an error there is nothing.
func TestAnyArgument(t *testing.T) {
	chance := rand.New(rand.NewSource(1))
	for range 20000 {
		f, e := New(someNumber(chance, most))
		if (f == nil) != (e == api.ErrRange) || (f != nil) != (e == api.OK) {
			t.Fatalf("New: %v, %d", f, e)
		}
		for range 3 {
			f.Put(someBytes(chance, chance.Intn(40))...)
			f.Peek(someNumber(chance, 20))
			f.Take(someNumber(chance, 20))
		}
		if f.Len() > f.Room() || len(f.Peek(math.MaxInt)) != f.Len() {
			t.Fatalf("%d wait, with room for %d", f.Len(), f.Room())
		}
	}
}

// P1: what New answers beside an error is none, and does nothing.
func TestNone(t *testing.T) {
	none, _ := New(0)
	for range 2 {
		is(t, none, 0, nil, 0, 0)
		puts(t, none, []byte{1, 2}, 0)
		puts(t, none, nil, 0)
		for _, n := range asked(1) {
			takes(t, none, n, nil)
			peeks(t, none, n, nil)
		}
		none.Clear()
	}
	if none.Copy() != nil {
		t.Errorf("a copy of none is some")
	}
	same(t, none, none, true)
	same(t, none, made(t, 2), true)
	same(t, none, filled(t, 2, 1), false)
}

// spoil: all bytes of a list and of its spare room are others now.
func spoil(list []byte) {
	list = list[:cap(list)]
	for i := range list {
		list[i] ^= 0xff
	}
}

// P2, rule 4: what Take and Peek told is the asker's: a change of it, or of what is put behind it, changes no row and no other answer.
func TestBytesThatAreTold(t *testing.T) {
	for n := range 40 {
		f, want := filled(t, 100, 40), pattern(40)
		c := f.Copy()
		first, next := f.Peek(n), f.Peek(n)
		spoil(first)
		taken := f.Take(n)
		if !bytes.Equal(next, want[:n]) || !bytes.Equal(taken, want[:n]) {
			t.Fatalf("two answers share memory")
		}
		is(t, f, 100, want[n:], 0, uint64(n))
		spoil(append(taken, 1, 2, 3))
		spoil(append(next, 1, 2, 3))
		spoil(taken)
		is(t, f, 100, want[n:], 0, uint64(n))
		is(t, c, 100, want, 0, 0)
	}
}

// P2, rule 4: no later call changes what was told.
func TestBytesThatAreToldStay(t *testing.T) {
	for n := range 40 {
		f, want := filled(t, 100, 40), pattern(40)
		peeked := f.Peek(n)
		taken := f.Take(n)
		f.Put(bytes.Repeat([]byte{0xff}, 30)...)
		rest := f.Peek(math.MaxInt)
		f.Take(7)
		f.Put(bytes.Repeat([]byte{0xee}, 100)...)
		f.Clear()
		f.Put(bytes.Repeat([]byte{0xdd}, 100)...)
		if !bytes.Equal(peeked, want[:n]) || !bytes.Equal(taken, want[:n]) {
			t.Fatalf("what comes is seen in bytes that were told")
		}
		if !bytes.Equal(rest, append(want[n:], bytes.Repeat([]byte{0xff}, 30)...)) {
			t.Fatalf("what comes is seen in bytes that were told")
		}
	}
}

// Rule 5 of the language: what is told hangs on no capacity; so there is none beyond what is told, and what stays has none either.
func TestNoSpareRoom(t *testing.T) {
	for n := range 60 {
		f := filled(t, 100, 70)
		if got := f.Peek(n); cap(got) != n {
			t.Errorf("Peek(%d) has room for %d", n, cap(got))
		}
		if got := f.Take(n); cap(got) != n {
			t.Errorf("Take(%d) has room for %d", n, cap(got))
		}
		if got := cap(f.waiting); n > 0 && got != 70-n {
			t.Errorf("Take(%d) leaves %d bytes with room for %d", n, 70-n, got)
		}
		if c := f.Copy(); cap(c.waiting) != 70-n {
			t.Errorf("a copy of %d bytes has room for %d", 70-n, cap(c.waiting))
		}
	}
}

// P2, rule 4: what Put was given stays as it is, with its spare room, and isn't kept.
func TestBytesThatAreGiven(t *testing.T) {
	for _, wait := range []int{0, 1, 10, 40, 50} {
		f, row := filled(t, 50, wait), pattern(30)
		came := f.Put(row[:20]...)
		f.Put(row[20:20]...)
		if !bytes.Equal(row, pattern(30)) {
			t.Fatalf("the bytes that were given are changed")
		}
		want := append(pattern(wait), row[:came]...)
		spoil(row)
		is(t, f, 50, want, uint64(20-came), 0)
		kept := bytes.Clone(row)
		f.Put(1, 2, 3)
		f.Take(wait + 1)
		f.Put(4, 5, 6)
		f.Clear()
		f.Put(7, 8, 9)
		if !bytes.Equal(row, kept) {
			t.Fatalf("what comes is seen in bytes that were given")
		}
	}
}

// P2, rule 4: what a row told may be put into it again.
func TestBytesGoRound(t *testing.T) {
	f := filled(t, 7, 7)
	for range 30 {
		f.Put(f.Take(3)...)
	}
	want := pattern(7)
	for range 30 {
		want = append(want[3:], want[:3]...)
	}
	is(t, f, 7, want, 0, 90)
	f.Put(f.Peek(7)...)
	is(t, f, 7, want, 7, 90)
}

// P2, rule 3: New that is refused changes no other row, and asking changes none.
func TestAskingChangesNothing(t *testing.T) {
	a, b := made(t, 9), made(t, 9)
	chance := rand.New(rand.NewSource(3))
	for range 2000 {
		New(-1)
		New(most + 1)
		a.Peek(someNumber(chance, 9))
		a.Take(-chance.Intn(9))
		a.Copy().Put(1)
		a.Copy().Take(1)
		Same(a, b)
		data, n := someBytes(chance, chance.Intn(5)), chance.Intn(5)
		if a.Put(data...) != b.Put(data...) || !bytes.Equal(a.Take(n), b.Take(n)) {
			t.Fatalf("two rows to which the same happened tell unlike things")
		}
		is(t, a, 9, b.Peek(9), b.Lost(), b.Taken())
	}
}

// pair is a row and its model, to which the same is done.
type pair struct {
	f *Fifo
	m *model
}

func (p *pair) as(t *testing.T) {
	t.Helper()
	is(t, p.f, p.m.room, p.m.peek(math.MaxInt), p.m.lost, p.m.taken)
}

// turn does one thing to both, and holds the answers against one another.
func (p *pair) turn(t *testing.T, chance *rand.Rand) {
	t.Helper()
	n := someNumber(chance, p.m.room)
	data := someBytes(chance, chance.Intn(p.m.room+3))
	switch chance.Intn(12) {
	case 0, 1, 2, 3:
		puts(t, p.f, data, p.m.put(data))
	case 4, 5, 6:
		takes(t, p.f, n, p.m.take(n))
	case 7, 8:
		peeks(t, p.f, n, p.m.peek(n))
	case 9:
		if chance.Intn(4) == 0 {
			p.f.Clear()
			p.m.clear()
		}
	default:
		left, gone := *p, pair{p.f.Copy(), p.m.copy()}
		puts(t, gone.f, data, gone.m.put(data))
		takes(t, gone.f, n, gone.m.take(n))
		same(t, left.f, gone.f, bytes.Equal(left.m.peek(math.MaxInt), gone.m.peek(math.MaxInt)))
		if chance.Intn(2) == 0 {
			*p = gone
		}
		left.as(t)
		gone.as(t)
	}
	p.as(t)
}

// P14.1 to P14.3: walks of all calls, held against a list of all that ever came.
func TestAgainstAllThatCame(t *testing.T) {
	for seed := range int64(40) {
		chance := rand.New(rand.NewSource(seed))
		room := 1 + chance.Intn(30)
		p := &pair{made(t, room), &model{room: room}}
		for range 500 {
			p.turn(t, chance)
		}
	}
}
