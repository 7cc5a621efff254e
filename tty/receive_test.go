package tty

import (
	"testing"

	"vireo/api"
)

// parts: n bytes to be written in pieces of so many bytes each, some of them empty, that don't lie one behind the other.
func parts(n, each uint64) []api.Segment {
	list := []api.Segment{writes(end, 0)}
	for at := uint64(data + 1); n > 0; at += each + 3 {
		list = append(list, writes(at, min(n, each)), writes(at, 0))
		n -= min(n, each)
	}
	return list
}

// P20.2: of what waits, a chain gets as many bytes as it has to be written, or all, if it has more; the others wait on.
func TestReceive(t *testing.T) {
	for _, waiting := range []int{1, 2, 3, 100, 255, 256, 257, 4095, 4096} {
		for _, room := range []int{1, 2, 3, 99, 100, 101, 255, 256, 257, 4094, 4095, 4096, 4097, 5000, 8192, 65536, 100000} {
			for _, list := range [][]api.Segment{
				{writes(data+5, uint64(room))},
				parts(uint64(room), uint64(room+9)/10),
				append([]api.Segment{reads(end-2000, 1000), reads(data, 0), reads(data, 3)}, parts(uint64(room), uint64(room+2)/3)...),
			} {
				x := live(t, 0)
				x.c.Type(pattern(waiting, 3)...)
				x.offer(0, 7, list...)
				k := x.keeps()
				k.receives(7, min(waiting, room), list...)
				x.comesTo(t, k, func() { x.c.Notified(Receive) })
				x.waits(t, pattern(waiting, 3)[min(waiting, room):], uint64(min(waiting, room)), 0)
				x.wasUsed(t, 0, [2]uint64{7, uint64(min(waiting, room))})
				x.raised(t, 1)
			}
		}
	}
}

// P20.2: a chain with no byte to be written gets 0, whether anything waits or nothing does.
func TestReceiveIntoNoRoom(t *testing.T) {
	for _, list := range [][]api.Segment{
		{reads(data, 0)}, {writes(data, 0)}, {reads(data, 1)}, {reads(data, 5000), reads(data, 3)}, {reads(data, 512), writes(data, 0), writes(end, 0)},
	} {
		for _, waiting := range []int{0, 1, 4096} {
			x := live(t, 0)
			x.c.Type(pattern(waiting, 0)...)
			x.offer(0, 2, list...)
			k := x.keeps()
			k.uses(0, 2, list, nil)
			x.comesTo(t, k, func() { x.c.Notified(Receive) })
			x.wasUsed(t, 0, [2]uint64{2, 0})
			x.waits(t, pattern(waiting, 0), 0, 0)
			x.raised(t, 1)
		}
	}
}

// P20.2: several chains of one service are served in order, as far as bytes wait; the first that has to wait keeps those behind it waiting, such as have no byte to be written, too.
func TestReceiveBySeveralChains(t *testing.T) {
	x := live(t, 0)
	x.c.Type(pattern(1000, 0)...)
	lists := [][]api.Segment{
		{writes(data, 10)},
		{reads(data, 5), writes(data+page, 1)},
		{reads(data, 4)},
		{writes(data+2*page, 300), writes(data+3*page, 300)},
		{writes(end, 0)},
		{writes(data+4*page, 389), writes(data+5*page, 100)},
		{writes(data+20, 0)},
		{writes(data+6*page, 50)},
		{reads(data, 1)},
		{writes(data+7*page, 3)},
	}
	for i, list := range lists {
		x.offer(0, 5*i, list...)
	}
	k := x.keeps()
	for i, n := range []int{10, 1, 0, 600, 0, 389, 0} {
		k.receives(5*i, n, lists[i]...)
	}
	x.comesTo(t, k, func() { x.c.Notified(Receive) })
	x.waits(t, nil, 1000, 0)
	x.raised(t, 1)
	// Nothing more comes of telling of it again.
	k = x.keeps()
	x.comesTo(t, k, func() { x.c.Notified(Receive) })
	// Behind the next bytes they go on, each once.
	k.input.Put(1, 2, 3)
	for i, n := range []int{3, 0} {
		k.receives(5*(7+i), n, lists[7+i]...)
	}
	x.comesTo(t, k, func() { x.c.Type(1, 2, 3) })
	x.raised(t, 1)
	k = x.keeps()
	k.input.Put(4)
	k.receives(45, 1, lists[9]...)
	x.comesTo(t, k, func() { x.c.Type(4) })
	x.wasUsed(t, 0, [2]uint64{0, 10}, [2]uint64{5, 1}, [2]uint64{10, 0}, [2]uint64{15, 600}, [2]uint64{20, 0}, [2]uint64{25, 389}, [2]uint64{30, 0}, [2]uint64{35, 3}, [2]uint64{40, 0}, [2]uint64{45, 1})
}

// P20.2: a chain has to wait while nothing waits to be received: it isn't told to be used; and what the other queue does is nothing to it.
func TestReceiveHasToWait(t *testing.T) {
	x := live(t, 0)
	x.offer(0, 3, writes(data, 20))
	k := x.keeps()
	for range 3 {
		x.comesTo(t, k, func() { x.notify(t, 0) })
	}
	x.wasUsed(t, 0)
	x.raised(t, 0)
	piece := reads(data+page, 4)
	x.offer(1, 0, piece)
	k = x.keeps()
	k.shows(0, x.got([]api.Segment{piece}, false), piece)
	x.comesTo(t, k, func() { x.notify(t, 1) })
	x.raised(t, 1)
	// Bytes that come into the row from elsewhere wait, till the driver tells of its queue.
	k = x.keeps()
	k.input.Put(9, 8)
	x.comesTo(t, k, func() { x.c.Input().Put(9, 8) })
	k.receives(3, 2, writes(data, 20))
	x.comesTo(t, k, func() { x.notify(t, 0) })
	x.raised(t, 1)
}

// P20.2: pieces of a chain may lie one over the other: the bytes stand there in order.
func TestReceiveOneOverTheOther(t *testing.T) {
	x := live(t, 0)
	x.c.Type(1, 2, 3, 4, 5, 6, 7)
	x.offer(0, 0, writes(data, 4), writes(data+2, 4))
	k := x.keeps()
	k.receives(0, 7, writes(data, 4), writes(data+2, 4))
	x.comesTo(t, k, func() { x.c.Notified(Receive) })
	if got := x.got([]api.Segment{reads(data, 5)}, false); string(got) != "\x01\x02\x05\x06\x07" {
		t.Errorf("%x stands there", got)
	}
}

// P20.2: a chain of as many pieces as may be, by a table of 256 descriptors.
func TestReceiveByTable(t *testing.T) {
	x := live(t, indirect)
	x.c.Type(pattern(600, 1)...)
	var list []api.Segment
	for i := range uint64(256) {
		list = append(list, writes(data+page+5*i, 2))
	}
	lay(x.m, data, 0, list)
	x.m.Write(table(0)+16*9, []byte{0, 0x20, 0, 0x80, 0, 0, 0, 0, 0, 0x10, 0, 0, 4, 0, 0, 0})
	x.head(0, 9)
	k := x.keeps()
	k.receives(9, 512, list...)
	x.comesTo(t, k, func() { x.c.Notified(Receive) })
	x.waits(t, pattern(600, 1)[512:], 512, 0)
}
