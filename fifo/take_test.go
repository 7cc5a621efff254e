package fifo

import (
	"bytes"
	"math"
	"testing"
)

// asked: how many may be asked for of a row with so many.
func asked(wait int) []int {
	return []int{math.MinInt, math.MinInt + 1, -1 << 32, -1<<32 + 1, -wait, -2, -1, 0, 1, 2, wait - 1, wait, wait + 1, 2 * wait, most, 1 << 32, 1<<32 + 1, math.MaxInt - 1, math.MaxInt}
}

// P14.2: the first n that wait, or all; none below 0. They wait no more, and are counted.
func TestTake(t *testing.T) {
	for _, room := range []int{1, 2, 3, 100, most} {
		for _, wait := range []int{0, 1, room / 2, room - 1, room} {
			for _, n := range asked(wait) {
				f, cut := filled(t, room, wait), min(max(n, 0), wait)
				takes(t, f, n, pattern(wait)[:cut])
				is(t, f, room, pattern(wait)[cut:], 0, uint64(cut))
			}
		}
	}
}

// P14.2: Peek tells the same, as often as it is asked, and changes nothing.
func TestPeek(t *testing.T) {
	for _, room := range []int{1, 2, 3, 100, most} {
		for _, wait := range []int{0, 1, room / 2, room - 1, room} {
			f := filled(t, room, wait)
			for _, n := range asked(wait) {
				peeks(t, f, n, pattern(wait)[:min(max(n, 0), wait)])
				peeks(t, f, n, pattern(wait)[:min(max(n, 0), wait)])
				is(t, f, room, pattern(wait), 0, 0)
			}
			puts(t, f, pattern(room), room-wait)
			takes(t, f, room, append(pattern(wait), pattern(room-wait)...))
		}
	}
}

// P14.2: what is taken makes room for as many others.
func TestTakeMakesRoom(t *testing.T) {
	for _, room := range []int{1, 2, 5, most} {
		for _, n := range []int{0, 1, room - 1, room} {
			f := filled(t, room, room)
			takes(t, f, n, pattern(room)[:n])
			puts(t, f, bytes.Repeat([]byte{0xff}, room+1), n)
			want := append(pattern(room)[n:], bytes.Repeat([]byte{0xff}, n)...)
			is(t, f, room, want, uint64(room+1-n), uint64(n))
			takes(t, f, room, want)
			is(t, f, room, nil, uint64(room+1-n), uint64(n+room))
		}
	}
}

func TestTakenIsCountedOneAfterTheOther(t *testing.T) {
	f, taken := filled(t, 10, 10), uint64(0)
	for _, n := range []int{0, 1, -5, 2, 3, 0, 9, 9, 1} {
		taken += uint64(len(f.Take(n)))
		counts(t, f, 10-int(taken), 0, taken)
	}
	counts(t, f, 0, 0, 10)
}

// P14.2: behind Clear none waits; what was there is neither dropped nor taken.
func TestClear(t *testing.T) {
	for _, room := range []int{1, 2, 5, most} {
		for _, wait := range []int{0, 1, room - 1, room} {
			f := filled(t, room, room)
			puts(t, f, pattern(3), 0)
			takes(t, f, room, pattern(room))
			puts(t, f, pattern(wait), wait)
			f.Clear()
			is(t, f, room, nil, 3, uint64(room))
			f.Clear()
			is(t, f, room, nil, 3, uint64(room))
			takes(t, f, 9, nil)
			puts(t, f, pattern(room+2), room)
			is(t, f, room, pattern(room), 5, uint64(room))
		}
	}
	f := made(t, 3)
	f.Clear()
	is(t, f, 3, nil, 0, 0)
}

// P14.3: what is taken is what came, in order, while others come in between, through many more bytes than there is room for.
func TestInOrder(t *testing.T) {
	for _, room := range []int{1, 2, 3, 7, 64, 1000, most} {
		f, want := made(t, room), pattern(12*room+400)
		var got []byte
		sent := 0
		for i := 0; len(got) < len(want) && i < 100000; i++ { // each time at least one comes and one goes
			sent += f.Put(want[sent:min(len(want), sent+1+i*5%(room+1))]...)
			got = append(got, f.Take(1+i*3%(room+1))...)
			counts(t, f, sent-len(got), f.Lost(), uint64(len(got)))
		}
		if !bytes.Equal(got, want) {
			t.Errorf("room %d: what is taken isn't what came", room)
		}
	}
}

// P14.3: byte by byte, with a row that is always nearly full.
func TestInOrderByteByByte(t *testing.T) {
	for _, room := range []int{1, 2, 5, 300} {
		f, want := made(t, room), pattern(20*room)
		puts(t, f, want, room)
		for i := range 19 * room {
			takes(t, f, 1, want[i:i+1])
			puts(t, f, want[i+room:], 1)
		}
		takes(t, f, room, want[19*room:])
		counts(t, f, 0, f.Lost(), uint64(20*room))
	}
}

// P14.3: of what is dropped, and what is cleared, nothing is taken; the rest stays in order.
func TestInOrderWithGaps(t *testing.T) {
	f := made(t, 3)
	puts(t, f, []byte{1, 2, 3, 4}, 3)
	takes(t, f, 2, []byte{1, 2})
	puts(t, f, []byte{5, 6, 7, 8}, 2)
	takes(t, f, 1, []byte{3})
	puts(t, f, []byte{9}, 1)
	takes(t, f, 3, []byte{5, 6, 9})
	puts(t, f, []byte{10, 11}, 2)
	f.Clear()
	puts(t, f, []byte{12, 13}, 2)
	takes(t, f, 9, []byte{12, 13})
	is(t, f, 3, nil, 3, 8)
}
