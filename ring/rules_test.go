package ring

import (
	"bytes"
	"math/rand"
	"testing"

	"vireo/api"
	"vireo/ram"
)

// P1: every call ends and none panics, whatever it is given; rule 2: beside false there is nothing.
func TestAnyArgument(t *testing.T) {
	chance := rand.New(rand.NewSource(7))
	m := filled(t, small)
	for range 50000 {
		l := someLayout(chance, small)
		if chance.Intn(8) == 0 {
			l = api.Layout{Size: strange[chance.Intn(len(strange))], Desc: chance.Uint64(), Avail: chance.Uint64(), Used: chance.Uint64()}
		}
		if chance.Intn(8) == 0 {
			l.Size = 0
		}
		n, i := uint16(chance.Uint32()), int(chance.Uint64())>>chance.Intn(64)
		Power(i)
		Areas(l)
		for _, memory := range []*ram.RAM{m, nil} {
			Check(memory, l)
			if d, ok := Desc(memory, l.Desc, i); !ok && d != (api.Desc{}) {
				t.Fatalf("Desc: %+v beside false", d)
			}
			Flags(memory, l)
			Offered(memory, l)
			Head(memory, l, n)
			Wanted(memory, l)
			Put(memory, l, n, n, chance.Uint32())
			Publish(memory, l, n)
			Want(memory, l, n)
		}
		Passed(n, uint16(i), n+1)
	}
}

// P1: every Size that is none, at places where a queue might lie.
func TestSizesThatAreNone(t *testing.T) {
	for _, size := range append([]int{0, 3, 5, 6, 255, 257}, strange...) {
		m := filled(t, small)
		l := api.Layout{Size: size, Desc: base + page, Avail: base + page, Used: base + page}
		watched(t, m, nil, nil, func() {
			for n := range 600 {
				if Head(m, l, uint16(n)) != 0 || Put(m, l, uint16(n), 1, 2) {
					t.Errorf("a queue of %d", size)
				}
			}
			if Flags(m, l) != 0 || Offered(m, l) != 0 || Wanted(m, l) != 0 || Publish(m, l, 1) || Want(m, l, 1) {
				t.Errorf("a queue of %d", size)
			}
		})
		holds(t, m, pattern(small))
	}
}

// P1: of a memory that is none nothing is read, and none is written.
func TestNoMemory(t *testing.T) {
	for _, l := range places() {
		checks(t, nil, l, api.ErrPlace)
		tells(t, nil, l.Desc, 0, api.Desc{}, false)
		if Flags(nil, l) != 0 || Offered(nil, l) != 0 || Head(nil, l, 1) != 0 || Wanted(nil, l) != 0 {
			t.Errorf("%+v: something is read", l)
		}
		if Put(nil, l, 1, 2, 3) || Publish(nil, l, 1) || Want(nil, l, 1) {
			t.Errorf("%+v: something is written", l)
		}
	}
}

// P2, rule 3: asking changes no byte, and what is refused neither does, nor is it told to a log.
func TestAskingChangesNothing(t *testing.T) {
	chance := rand.New(rand.NewSource(8))
	m := filled(t, small)
	for range 3000 {
		l := someLayout(chance, small)
		Check(m, l)
		Areas(l)
		Desc(m, l.Desc, chance.Intn(300)-20)
		Flags(m, l)
		Offered(m, l)
		Head(m, l, uint16(chance.Uint32()))
		Wanted(m, l)
		if Check(m, l) != api.OK {
			watched(t, m, nil, nil, func() {
				Put(m, l, 1, 2, 3)
				Publish(m, l, 4)
				Want(m, l, 5)
				Flags(m, l)
			})
		}
	}
	holds(t, m, pattern(small))
	watched(t, m, nil, nil, func() {
		for _, l := range places() {
			Check(m, l)
		}
	})
}

// P2, rule 4: what Bytes tells is new memory.
func TestBytesAreNew(t *testing.T) {
	d := api.Desc{Addr: 1, Len: 2, Flags: 3, Next: 4}
	first, next := Bytes(d), Bytes(d)
	want := bytes.Clone(next)
	first = first[:cap(first)]
	for i := range first {
		first[i] = 0xee
	}
	if !bytes.Equal(next, want) || !bytes.Equal(Bytes(d), want) {
		t.Errorf("two answers share memory")
	}
	m := made(t, page)
	m.Write(base, next)
	for i := range next {
		next[i] = 0xee
	}
	tells(t, m, base, 0, d, true)
}

// P2, rule 4: what is told hangs on the memory that is given alone, not on others, nor on what was asked ahead.
func TestTellsTheSameAgain(t *testing.T) {
	a, b := filled(t, small), made(t, small)
	for _, l := range places() {
		for _, n := range []uint16{0, 1, 300} {
			head, offered := Head(a, l, n), Offered(a, l)
			Put(b, l, n, 1, 2)
			Publish(b, l, n)
			Want(b, l, n)
			Desc(b, l.Desc, 1)
			if Head(a, l, n) != head || Offered(a, l) != offered {
				t.Fatalf("%+v: another memory is seen", l)
			}
		}
	}
	holds(t, a, pattern(small))
}
