package fifo

import (
	"bytes"
	"math"
	"testing"

	"vireo/api"
)

// P14.1: from 1 to MaxFifo; beside ErrRange there is none, else an empty row.
func TestNew(t *testing.T) {
	for _, c := range []struct {
		room int
		want api.Errno
	}{
		{math.MinInt, api.ErrRange},
		{math.MinInt + 1, api.ErrRange}, // 1, if the high bits were lost
		{-1<<32 + 1, api.ErrRange},
		{-most, api.ErrRange},
		{-2, api.ErrRange},
		{-1, api.ErrRange},
		{0, api.ErrRange},
		{1, api.OK},
		{2, api.OK},
		{3, api.OK},
		{255, api.OK},
		{256, api.OK},
		{257, api.OK},
		{most - 1, api.OK},
		{most, api.OK},
		{most + 1, api.ErrRange},
		{2 * most, api.ErrRange},
		{65536 + 1, api.ErrRange},
		{math.MaxInt32, api.ErrRange},
		{1 << 32, api.ErrRange},
		{1<<32 + 1, api.ErrRange},
		{math.MaxInt - 1, api.ErrRange},
		{math.MaxInt, api.ErrRange},
	} {
		f, e := New(c.room)
		if e != c.want || (f != nil) != (c.want == api.OK) {
			t.Errorf("New(%d): %v, %d", c.room, f, e)
		}
		if f != nil {
			is(t, f, c.room, nil, 0, 0)
		}
	}
}

func TestNewOfEveryRoom(t *testing.T) {
	for room := -most; room <= 2*most; room++ {
		if f, e := New(room); (f != nil) != (1 <= room && room <= most) || (e == api.OK) != (f != nil) {
			t.Fatalf("New(%d): %v, %d", room, f, e)
		}
	}
}

func TestTwoRowsAreApart(t *testing.T) {
	a, b := made(t, 3), made(t, 3)
	puts(t, a, []byte{1, 2, 3, 4}, 3)
	takes(t, a, 1, []byte{1})
	is(t, b, 3, nil, 0, 0)
	puts(t, b, []byte{9}, 1)
	is(t, a, 3, []byte{2, 3}, 1, 1)
}

// P14.1: the numbers that are told, right behind New and behind every other call.
func TestNumbers(t *testing.T) {
	f := made(t, 4)
	is(t, f, 4, nil, 0, 0)
	f.Put()
	is(t, f, 4, nil, 0, 0)
	f.Put(1, 2, 3)
	is(t, f, 4, []byte{1, 2, 3}, 0, 0)
	f.Peek(2)
	is(t, f, 4, []byte{1, 2, 3}, 0, 0)
	f.Put(4, 5, 6)
	is(t, f, 4, []byte{1, 2, 3, 4}, 2, 0)
	f.Take(3)
	is(t, f, 4, []byte{4}, 2, 3)
	f.Copy()
	is(t, f, 4, []byte{4}, 2, 3)
	f.Take(-1)
	is(t, f, 4, []byte{4}, 2, 3)
	f.Clear()
	is(t, f, 4, nil, 2, 3)
	f.Take(7)
	is(t, f, 4, nil, 2, 3)
	f.Put(pattern(9)...)
	is(t, f, 4, pattern(4), 7, 3)
	f.Take(9)
	is(t, f, 4, nil, 7, 7)
	Same(f, f.Copy())
	is(t, f, 4, nil, 7, 7)
}

// P14.2: the first bytes for which there is room come to the end, in order; the others are dropped, and counted.
func TestPut(t *testing.T) {
	for _, room := range []int{1, 2, 3, 64, 100, most - 1, most} {
		for _, wait := range []int{0, 1, room / 2, room - 1, room} {
			free := room - wait
			for _, n := range []int{0, 1, 2, free - 1, free, free + 1, free + 2, room, room + 1, 3*room + 5, 10000} {
				if n < 0 {
					continue
				}
				f, data := filled(t, room, wait), bytes.Repeat([]byte{0xfd, 0xfe, 0xff}, n)[:n]
				came := min(n, free)
				puts(t, f, data, came)
				is(t, f, room, append(pattern(wait), data[:came]...), uint64(n-came), 0)
			}
		}
	}
}

func TestPutOfNothing(t *testing.T) {
	for _, f := range []*Fifo{made(t, 3), filled(t, 3, 2), filled(t, 3, 3)} {
		wait := f.Peek(3)
		puts(t, f, nil, 0)
		puts(t, f, []byte{}, 0)
		if got := f.Put(); got != 0 {
			t.Errorf("Put of nothing: %d", got)
		}
		is(t, f, 3, wait, 0, 0)
	}
}

// P14.2: what is dropped is counted, one call after the other, and comes no more when there is room.
func TestDropped(t *testing.T) {
	f := made(t, 2)
	puts(t, f, []byte{1, 2, 3}, 2)
	counts(t, f, 2, 1, 0)
	puts(t, f, []byte{4}, 0)
	counts(t, f, 2, 2, 0)
	puts(t, f, pattern(100000), 0)
	counts(t, f, 2, 100002, 0)
	puts(t, f, nil, 0)
	counts(t, f, 2, 100002, 0)
	takes(t, f, 1, []byte{1})
	puts(t, f, []byte{5, 6}, 1)
	is(t, f, 2, []byte{2, 5}, 100003, 1)
	f.Clear()
	puts(t, f, []byte{7, 8, 9, 10}, 2)
	is(t, f, 2, []byte{7, 8}, 100005, 1)
}

func TestEveryByteIsAByte(t *testing.T) {
	f := made(t, 256)
	for i := range 256 {
		puts(t, f, []byte{byte(i)}, 1)
	}
	for i := range 256 {
		takes(t, f, 1, []byte{byte(i)})
	}
	f = made(t, 3)
	puts(t, f, []byte{0, 0}, 2)
	is(t, f, 3, []byte{0, 0}, 0, 0)
}

// P14.2: the chapter's example.
func TestExample(t *testing.T) {
	f := made(t, 2)
	puts(t, f, []byte{1, 2, 3}, 2)
	is(t, f, 2, []byte{1, 2}, 1, 0)
}

// The document's example 9, as far as it is this layer's.
func TestTypedWithoutADriver(t *testing.T) {
	f := made(t, most)
	puts(t, f, pattern(5000), 4096)
	is(t, f, most, pattern(5000)[:4096], 904, 0)
}
