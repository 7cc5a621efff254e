package fifo

import (
	"math/rand"
	"testing"
)

// used: a row with room for 5 in which 20, 21 and 22 wait; 2 were lost and 4 taken.
func used(t *testing.T) *Fifo {
	t.Helper()
	f := made(t, 5)
	puts(t, f, []byte{1, 2, 3, 4, 20, 9, 9}, 5)
	takes(t, f, 4, []byte{1, 2, 3, 4})
	puts(t, f, []byte{21, 22}, 2)
	return f
}

// P14.2: a copy is alike in everything: what waits, Room, Lost, Taken.
func TestCopyIsAlike(t *testing.T) {
	f := used(t)
	c := f.Copy()
	if c == nil || c == f {
		t.Fatalf("Copy answers no row of its own")
	}
	for _, r := range []*Fifo{f, c, c.Copy()} {
		is(t, r, 5, []byte{20, 21, 22}, 2, 4)
		puts(t, r, []byte{23, 24, 25}, 2)
		takes(t, r, 4, []byte{20, 21, 22, 23})
		is(t, r, 5, []byte{24}, 3, 8)
	}
	for _, room := range []int{1, 2, 100, most} {
		for _, wait := range []int{0, 1, room / 2, room} {
			is(t, filled(t, room, wait).Copy(), room, pattern(wait), 0, 0)
		}
	}
}

// P14.2: a copy is of its own: each goes its own way.
func TestCopyIsOfItsOwn(t *testing.T) {
	for _, swap := range []bool{false, true} {
		f := used(t)
		c := f.Copy()
		if swap {
			f, c = c, f
		}
		puts(t, c, []byte{30, 31, 32}, 2)
		is(t, f, 5, []byte{20, 21, 22}, 2, 4)
		puts(t, f, []byte{40}, 1)
		is(t, c, 5, []byte{20, 21, 22, 30, 31}, 3, 4)
		takes(t, f, 3, []byte{20, 21, 22})
		is(t, c, 5, []byte{20, 21, 22, 30, 31}, 3, 4)
		c.Clear()
		is(t, f, 5, []byte{40}, 2, 7)
		puts(t, c, []byte{50, 51}, 2)
		puts(t, f, []byte{60}, 1)
		is(t, c, 5, []byte{50, 51}, 3, 4)
		is(t, f, 5, []byte{40, 60}, 2, 7)
	}
}

// P14.2: a copy and its source, wherever the one was cut off from the other, share no spare room.
func TestCopyBetweenBytes(t *testing.T) {
	for n := range 40 {
		f := filled(t, 100, n)
		c := f.Copy()
		puts(t, f, []byte{0xf0, 0xf1}, 2)
		puts(t, c, []byte{0xe0, 0xe1, 0xe2}, 3)
		puts(t, f, []byte{0xf2}, 1)
		is(t, f, 100, append(pattern(n), 0xf0, 0xf1, 0xf2), 0, 0)
		is(t, c, 100, append(pattern(n), 0xe0, 0xe1, 0xe2), 0, 0)
	}
}

func same(t *testing.T, a, b *Fifo, want bool) {
	t.Helper()
	if Same(a, b) != want || Same(b, a) != want || !Same(a, a) || !Same(b, b) {
		t.Fatalf("Same: %v, %v, not %v", Same(a, b), Same(b, a), want)
	}
}

// P14.2: the same bytes wait, whatever Room, Lost and Taken are, and however they came.
func TestSame(t *testing.T) {
	fresh := made(t, most)
	same(t, used(t), fresh, false)
	puts(t, fresh, []byte{20}, 1)
	puts(t, fresh, []byte{21, 22}, 2)
	same(t, used(t), fresh, true)
	is(t, fresh, most, []byte{20, 21, 22}, 0, 0)
	same(t, used(t), used(t).Copy(), true)
	same(t, made(t, 1), made(t, most), true)
	empty := used(t)
	empty.Clear()
	same(t, empty, made(t, 5), true)
	empty.Put(1)
	same(t, empty, made(t, 5), false)
	empty.Take(1)
	same(t, empty, made(t, 5), true)
	same(t, filled(t, most, most), filled(t, most, most), true)
	same(t, filled(t, most, most), filled(t, most, most-1), false)
}

// P14.2: not as many, the one being the other's beginning or its end; as many, but others, or in another order.
func TestSameOfUnlikeBytes(t *testing.T) {
	rows := [][]byte{{}, {0}, {1}, {0, 0}, {0, 1}, {1, 0}, {1, 1}, {1, 2}, {2, 1}, {1, 2, 3}, {2, 3}, {1, 2, 4}, {1, 3, 2}, {3, 2, 1}, {1, 2, 3, 0}, {0, 1, 2, 3}}
	for i, x := range rows {
		for j, y := range rows {
			a, b := made(t, 9), made(t, 4)
			a.Put(x...)
			b.Put(y...)
			same(t, a, b, i == j)
		}
	}
}

// P14.2: one byte that differs is enough, wherever it is.
func TestSameByOneByte(t *testing.T) {
	for _, i := range []int{0, 1, 7, 8, 255, 256, 2047, most - 2, most - 1} {
		row := pattern(most)
		row[i] ^= 0x80
		b := made(t, most)
		b.Put(row...)
		same(t, filled(t, most, most), b, false)
	}
}

// P14.2: held against what Peek tells.
func TestSameAgainstPeek(t *testing.T) {
	chance := rand.New(rand.NewSource(14))
	a, b := made(t, 4), made(t, 3)
	for range 20000 {
		for _, f := range []*Fifo{a, b} {
			f.Put(byte(chance.Intn(2)))
			f.Take(chance.Intn(3))
		}
		same(t, a, b, string(a.Peek(9)) == string(b.Peek(9)))
	}
}
