package queue

import (
	"math"
	"math/rand"
	"testing"

	"vireo/api"
	"vireo/ram"
)

// returns: Return puts just these bytes, the entry first, and one more is used.
func returns(t *testing.T, m *ram.RAM, q *Queue, head uint16, count uint32) {
	t.Helper()
	row, behind := all(t, m), *q
	place := q.Layout.Used + 4 + 8*uint64(int(q.Used)%q.Layout.Size)
	copy(row[place-base:], []byte{byte(head), byte(head >> 8), 0, 0, byte(count), byte(count >> 8), byte(count >> 16), byte(count >> 24)})
	behind.Used = uint16((int(q.Used) + 1) % 65536)
	copy(row[q.Layout.Used+2-base:], []byte{byte(behind.Used), byte(behind.Used >> 8)})
	watched(t, m, nil, []api.Span{{At: place, Len: 8}, {At: q.Layout.Used + 2, Len: 2}}, func() { q.Return(m, head, count) })
	if *q != behind {
		t.Fatalf("Return leaves %+v, not %+v", *q, behind)
	}
	holds(t, m, row)
}

// P17.2: Return, its bytes written out by hand.
func TestReturnByHand(t *testing.T) {
	m := made(t, page)
	q := &Queue{Layout: api.Layout{Size: 2, Desc: base, Avail: base + 0x40, Used: base + 0x80}, Used: 0x01ff, Fetched: 7}
	q.Return(m, 0x0a0b, 0x01020304)
	row := make([]byte, page)
	copy(row[0x82:], []byte{0x00, 0x02})
	copy(row[0x8c:], []byte{0x0b, 0x0a, 0, 0, 4, 3, 2, 1})
	holds(t, m, row)
	q.Return(m, 1, 5)
	copy(row[0x82:], []byte{0x01, 0x02})
	copy(row[0x84:], []byte{1, 0, 0, 0, 5, 0, 0, 0})
	holds(t, m, row)
	if q.Used != 0x201 || q.Fetched != 7 {
		t.Errorf("%+v", q)
	}
}

// P17.2: heads and counts that are 0 and the greatest, with Used at 0, Size - 1, Size, 65535 and beside these; which bytes stand where, all others are as they were.
func TestReturn(t *testing.T) {
	for _, size := range sizes {
		for i, n := range counts(size) {
			m := filled(t)
			for _, l := range []api.Layout{layout(size), ending(size)} {
				q := &Queue{Layout: l, Ready: i%2 == 0, EventIdx: i%3 == 0, Indirect: i%5 == 0, Fetched: 99, Used: n}
				returns(t, m, q, 0, 0)
				returns(t, m, q, 65535, math.MaxUint32)
				returns(t, m, q, 0x0102, 0x03040506)
				returns(t, m, q, 255, 1<<31)
				returns(t, m, q, 256, 1)
			}
		}
	}
}

// P17.2: Used goes through all numbers, and begins anew at 0.
func TestReturnOfAllNumbers(t *testing.T) {
	m, q := ready(t, 4)
	for i := range 65536 + 9 {
		q.Return(m, uint16(i), uint32(i)*3)
		to := uint16((i + 1) % 65536)
		if q.Used != to || told(m, q) != to {
			t.Fatalf("behind %d: Used %d, told %d", i, q.Used, told(m, q))
		}
		if id, count := entry(m, q, uint16(i)); id != uint64(uint16(i)) || count != uint64(i)*3 {
			t.Fatalf("the number %d used: %d, %d", i, id, count)
		}
	}
}

func tells(t *testing.T, m *ram.RAM, q *Queue, from uint16, want bool) {
	t.Helper()
	ahead := *q
	if got := q.Tells(m, from); got != want || *q != ahead {
		t.Fatalf("Tells(%d) of %+v: %v, and it is %+v", from, ahead, got, *q)
	}
}

// P17.2: from that is Used tells nothing, whatever flags and events are.
func TestTellsOfNoneUsed(t *testing.T) {
	m, q := ready(t, 4)
	for _, n := range []uint16{0, 1, 3, 4, 32768, 65534, 65535} {
		q.Used = n
		for _, q.EventIdx = range []bool{false, true} {
			for _, w := range []uint16{0, 1, n - 1, n, n + 1, 65535} {
				flags(m, q, w)
				event(m, q, w)
				tells(t, m, q, n, false)
			}
		}
	}
}

// P17.2: without EventIdx the lowest bit of the flags tells, and neither the others nor the event; of any from that isn't Used.
func TestTellsByFlags(t *testing.T) {
	m, q := ready(t, 4)
	for w := range 65536 {
		flags(m, q, uint16(w))
		q.Used = uint16(w) * 7
		event(m, q, q.Used-uint16(w%4))
		for _, from := range []uint16{q.Used - 1, q.Used + 1, q.Used - 9, q.Used + 32768} {
			tells(t, m, q, from, w%2 == 0)
		}
	}
}

// P17.2: with EventIdx the event tells, and no flag; events that were gone past, and that weren't, around 65535 and 0, too.
func TestTellsByEvent(t *testing.T) {
	for _, size := range []int{1, 4, 256} {
		m, q := ready(t, size)
		q.EventIdx = true
		for _, c := range []struct {
			event, from, used uint16
			want              bool
		}{
			{9, 10, 12, false}, {10, 10, 12, true}, {11, 10, 12, true}, {12, 10, 12, false}, {13, 10, 12, false},
			{65534, 65535, 0, false}, {65535, 65535, 0, true}, {0, 65535, 0, false},
			{65533, 65534, 2, false}, {65534, 65534, 2, true}, {65535, 65534, 2, true}, {0, 65534, 2, true}, {1, 65534, 2, true}, {2, 65534, 2, false}, {32768, 65534, 2, false},
			{0, 1, 0, false}, {1, 1, 0, true}, {65535, 1, 0, true},
			{0, 0, 65535, true}, {65534, 0, 65535, true}, {65535, 0, 65535, false},
		} {
			for _, w := range []uint16{0, 1, 65535} {
				flags(m, q, w)
				event(m, q, c.event)
				q.Used = c.used
				tells(t, m, q, c.from, c.want)
			}
		}
	}
}

// P17.2: any event, from and Used near to one another, gone through one by one.
func TestTellsByEventAgainstModel(t *testing.T) {
	m, q := ready(t, 4)
	q.EventIdx = true
	for _, middle := range []int{0, 300, 32768} {
		for i := range 12 {
			for j := range 12 {
				for k := range 12 {
					q.Used = uint16(middle + j - 6)
					event(m, q, uint16(middle+k-6))
					from := uint16(middle + i - 6)
					tells(t, m, q, from, modelTells(m, q, from))
				}
			}
		}
	}
}

// P17.2: what tells is read of the queue alone, and nothing is written; whether it is Ready doesn't count.
func TestTellsReads(t *testing.T) {
	m, q := ready(t, 4)
	q.Used = 3
	for _, q.Ready = range []bool{false, true} {
		q.EventIdx = false
		watched(t, m, []api.Span{{At: q.Layout.Avail, Len: 2}}, nil, func() { tells(t, m, q, 0, true) })
		q.EventIdx = true
		watched(t, m, []api.Span{{At: q.Layout.Avail + 12, Len: 2}}, nil, func() { tells(t, m, q, 0, true) })
	}
}

// P17.2: Ask with EventIdx puts Fetched behind the last entry of Used; without it nothing is done.
func TestAsk(t *testing.T) {
	for _, size := range sizes {
		for _, l := range []api.Layout{layout(size), ending(size)} {
			for _, n := range append(counts(size), 0x0102, 0xff00) {
				for _, ready := range []bool{false, true} {
					m := filled(t)
					row := all(t, m)
					q := &Queue{Layout: l, Ready: ready, Fetched: n, Used: ^n, Indirect: true}
					ahead := *q
					watched(t, m, nil, nil, func() { q.Ask(m) })
					holds(t, m, row)
					q.EventIdx, ahead.EventIdx = true, true
					place := l.Used + 4 + 8*uint64(size)
					watched(t, m, nil, []api.Span{{At: place, Len: 2}}, func() { q.Ask(m) })
					copy(row[place-base:], []byte{byte(n), byte(n >> 8)})
					holds(t, m, row)
					if *q != ahead {
						t.Fatalf("Ask leaves %+v, not %+v", *q, ahead)
					}
				}
			}
		}
	}
}

// P17.2: Reset of a queue in which every part is set; and of the zero one.
func TestReset(t *testing.T) {
	q := Queue{Layout: layout(4), Ready: true, Fetched: 5, Used: 6, EventIdx: true, Indirect: true}
	for range 2 {
		q.Reset()
		if q != (Queue{}) {
			t.Errorf("Reset leaves %+v", q)
		}
	}
}

// P17.2: Return, Tells and Ask of queues by chance, some of whose pieces lie upon one another, held against the model.
func TestUsedAgainstModel(t *testing.T) {
	chance := rand.New(rand.NewSource(18))
	yes := 0
	for range 4000 {
		m, q := someQueue(t, chance)
		if !q.lies(m) {
			continue
		}
		other, copied := *q, m.Copy()
		for range 6 {
			from := q.Used - uint16(chance.Intn(5))
			head, count := uint16(chance.Uint32()), chance.Uint32()
			q.Return(m, head, count)
			modelReturn(copied, &other, head, count)
			got := q.Tells(m, from)
			if got != modelTells(copied, &other, from) {
				t.Fatalf("Tells(%d) of %+v: %v", from, *q, got)
			}
			if got {
				yes++
			}
			q.Ask(m)
			modelAsk(copied, &other)
			if *q != other || !ram.Same(m, copied) {
				t.Fatalf("%+v, not %+v, or another memory", *q, other)
			}
		}
	}
	if yes < 1000 {
		t.Errorf("true %d times", yes)
	}
}
