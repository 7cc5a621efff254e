package tty

import (
	"testing"

	"vireo/api"
	"vireo/ram"
	"vireo/ring"
	"vireo/vmmio"
)

// P20.1 to P20.4: a whole service: what a driver writes into registers and memory, from the first write to Status on, and what it finds there.
func TestService(t *testing.T) {
	x := fresh(t)
	before := []byte("typed ahead")
	if came := x.c.Type(before...); came != len(before) {
		t.Fatalf("Type: %d", came)
	}
	x.begin(t, 0)
	x.drive(t, [2]uint64{0x70, 15})
	x.status(t, 15)
	x.m.Write(data, []byte("hello, "))
	x.m.Write(data+page, []byte("world\n"))
	x.offer(0, 0, writes(data+2*page, 6))
	x.offer(0, 1, writes(data+3*page, 3), writes(data+4*page, 30))
	x.offer(0, 5, reads(data, 9))
	x.offer(0, 3, writes(data+5*page, 8))
	x.offer(1, 60, reads(data, 7))
	x.offer(1, 20, reads(data+page, 1), reads(data+page+1, 5), writes(data+6*page, 9))
	want := x.m.Copy()
	x.notify(t, 0)
	x.raised(t, 1)
	x.wasUsed(t, 0, [2]uint64{0, 6}, [2]uint64{1, 5}, [2]uint64{5, 0})
	x.waits(t, nil, 11, 0)
	x.told(t, nil, 0)
	x.notify(t, 1)
	x.raised(t, 1)
	x.wasUsed(t, 1, [2]uint64{60, 0}, [2]uint64{20, 0})
	x.told(t, []byte("hello, world\n"), 0)
	if came := x.c.Type([]byte("and behind")...); came != 10 {
		t.Errorf("Type: %d", came)
	}
	x.raised(t, 1)
	x.wasUsed(t, 0, [2]uint64{0, 6}, [2]uint64{1, 5}, [2]uint64{5, 0}, [2]uint64{3, 8})
	x.waits(t, []byte("nd"), 19, 0)
	want.Write(data+2*page, []byte("typed "))
	want.Write(data+3*page, []byte("ahe"))
	want.Write(data+4*page, []byte("ad"))
	want.Write(data+5*page, []byte("and behi"))
	for n := range 2 {
		area, _ := x.m.Read(used(n), 6+8*entries)
		want.Write(used(n), area)
	}
	if !ram.Same(x.m, want) {
		t.Errorf("the memory isn't as it should be: %x", ram.Differ(x.m, want, 9))
	}
	x.status(t, 15)
	x.notify(t, 0)
	x.notify(t, 1)
	x.raised(t, 0)
}

// The chapter's example, and the ninth of the document: 5000 bytes typed without a driver: 4096 wait, 904 are lost.
func TestExample(t *testing.T) {
	x := fresh(t)
	if came := x.c.Type(pattern(5000, 0)...); came != 4096 {
		t.Errorf("Type: %d", came)
	}
	x.waits(t, pattern(5000, 0)[:4096], 0, 904)
}

// P20.2: queues by whose descriptors tables are named, with numbers for events: the device asks to be told of the next chain that it doesn't have, and tells of what the driver wants to be told of.
func TestServiceByTables(t *testing.T) {
	x := live(t, indirect|eventIdx)
	lay(x.m, data, 0, []api.Segment{reads(data+page, 2), writes(data+2*page, 2), writes(data+3*page, 3)})
	lay(x.m, data+48, 0, []api.Segment{reads(data+page, 200), reads(data+page+200, 1)})
	x.m.Write(table(0)+16*7, []byte{0, 0x20, 0, 0x80, 0, 0, 0, 0, 48, 0, 0, 0, 4, 0, 0, 0})
	x.m.Write(table(1)+16*8, []byte{0x30, 0x20, 0, 0x80, 0, 0, 0, 0, 32, 0, 0, 0, 4, 0, 0, 0})
	wanted := func(n int) uint64 {
		w, _ := x.m.Load(used(n)+4+8*entries, 2)
		return w
	}
	text := x.got([]api.Segment{reads(data+page, 201)}, false)
	x.head(0, 7)
	x.head(0, 7)
	x.head(1, 8)
	x.notify(t, 0)
	x.raised(t, 0)
	if wanted(0) != 0 {
		t.Errorf("it asks to be told behind %d, with a chain that has to wait", wanted(0))
	}
	x.c.Type(1, 2, 3, 4)
	x.raised(t, 1)
	x.wasUsed(t, 0, [2]uint64{7, 4})
	if wanted(0) != 1 {
		t.Errorf("it asks to be told behind %d", wanted(0))
	}
	x.notify(t, 1)
	x.raised(t, 1)
	x.wasUsed(t, 1, [2]uint64{8, 0})
	x.told(t, text, 0)
	if wanted(1) != 1 {
		t.Errorf("it asks to be told behind %d", wanted(1))
	}
	// The driver wants to be told behind the second chain of the one, the third of the other.
	x.m.Store(avail(0)+4+2*entries, 2, 1)
	x.m.Store(avail(1)+4+2*entries, 2, 2)
	x.head(1, 8)
	x.notify(t, 1)
	x.raised(t, 0)
	x.c.Type(5)
	x.raised(t, 1)
	x.head(1, 8)
	x.notify(t, 1)
	x.raised(t, 1)
	x.told(t, append(append(text, text...), text...), 0)
	if got := x.got([]api.Segment{reads(data+2*page, 2), reads(data+3*page, 2)}, false); string(got) != "\x05\x02\x03\x04" {
		t.Errorf("%x stands there", got)
	}
}

// P20.2: a driver that doesn't want to be told: the interrupt's line stays low, and all else happens.
func TestNoInterrupt(t *testing.T) {
	for n := range 2 {
		x := live(t, 0)
		x.m.Store(avail(n), 2, 1)
		list := [][]api.Segment{{writes(data, 2)}, {reads(data, 2)}}[n]
		x.offer(n, 3, list...)
		k := x.keeps()
		k.input.Put(1, 2)
		if n == 1 {
			k.shows(3, x.got(list, false))
		} else {
			k.receives(3, 2, list...)
		}
		k.regs.Pending = 0
		x.comesTo(t, k, func() {
			x.c.Type(1, 2)
			x.c.Notified(n)
		})
	}
}

// spoilt: ways in which a chain, or what is offered, may not be; each is laid behind a chain that may.
func spoilt(n int) []func(x *bench) {
	desc := func(d api.Desc) func(x *bench) {
		return func(x *bench) {
			x.m.Write(table(n)+16*9, ring.Bytes(d))
			x.head(n, 9)
		}
	}
	return []func(x *bench){
		desc(api.Desc{Addr: data, Len: 4, Flags: api.FlagNext, Next: 9}),
		desc(api.Desc{Addr: data, Len: 4, Flags: api.FlagNext | api.FlagWrite, Next: 9}),
		desc(api.Desc{Addr: data, Len: 4, Flags: api.FlagNext, Next: entries}),
		desc(api.Desc{Addr: data, Len: 48, Flags: api.FlagIndirect}),
		desc(api.Desc{Addr: end - 3, Len: 4}),
		desc(api.Desc{Addr: end - 3, Len: 4, Flags: api.FlagWrite}),
		desc(api.Desc{Addr: ones - 1, Len: 4, Flags: api.FlagWrite}),
		desc(api.Desc{Addr: base - 1, Len: 0}),
		func(x *bench) { x.offer(n, 9, writes(data, 4), reads(data+8, 4)) },
		func(x *bench) { x.head(n, entries) },
		func(x *bench) { x.head(n, 65535) },
	}
}

// P20.2: a chain that may not be breaks the device: nothing of it is read or written; what was ahead of it was served, what is behind it isn't, till the device is begun anew.
func TestChainsThatMayNotBe(t *testing.T) {
	for n := range 2 {
		list := [][]api.Segment{{writes(data+page, 2)}, {reads(data+page, 2)}}[n]
		for _, spoil := range spoilt(n) {
			x := live(t, 0)
			x.c.Input().Put(1, 2, 3, 4, 5)
			x.offer(n, 0, list...)
			spoil(x)
			x.offer(n, 1, list...)
			x.offer(1-n, 0, list...)
			k := x.keeps()
			serve(k, n, 0, x.got(list, false), list)
			k.regs.Queues[n].Fetched++
			k.regs.Bits, k.regs.Pending = 79, vmmio.UsedBit|vmmio.ConfigBit
			x.comesTo(t, k, func() { x.c.Notified(n) })
			x.status(t, 79)
			x.comesTo(t, k, func() {
				x.c.Notified(n)
				x.c.Notified(1 - n)
				x.notify(t, n)
				x.notify(t, 1-n)
			})
			x.raised(t, 3)
			x.drive(t, [2]uint64{0x70, 0})
			x.begin(t, 0)
			x.drive(t, [2]uint64{0x70, 15})
			x.offer(n, 4, list...)
			k = x.keeps()
			serve(k, n, 4, x.got(list, false), list)
			x.comesTo(t, k, func() { x.notify(t, n) })
		}
	}
}

// serve: a chain of a queue is used, of the one by two bytes that wait, of the other by what it has.
func serve(k *kept, n, head int, text []byte, list []api.Segment) {
	if n == Receive {
		k.receives(head, 2, list...)
		return
	}
	k.shows(head, text, list...)
}

// P20.2: more chains than there can be, and a first chain that may not be: nothing is told to be used.
func TestBreaksAtOnce(t *testing.T) {
	for n := range 2 {
		x := live(t, 0)
		x.c.Input().Put(1, 2, 3)
		x.m.Store(avail(n)+2, 2, entries+1)
		k := x.keeps()
		k.regs.Bits, k.regs.Pending = 79, vmmio.ConfigBit
		x.comesTo(t, k, func() { x.notify(t, n) })
		for _, spoil := range spoilt(n) {
			x := live(t, 0)
			x.c.Input().Put(1, 2, 3)
			spoil(x)
			k := x.keeps()
			k.regs.Queues[n].Fetched++
			k.regs.Bits, k.regs.Pending = 79, vmmio.ConfigBit
			x.comesTo(t, k, func() { x.notify(t, n) })
		}
	}
}

// P20.2: at Receive a chain that may not be isn't looked at, while one ahead of it has to wait.
func TestBreaksBehindOneThatWaits(t *testing.T) {
	for _, spoil := range spoilt(0) {
		x := live(t, 0)
		x.offer(0, 0, writes(data, 2))
		spoil(x)
		x.comesTo(t, x.keeps(), func() { x.notify(t, 0) })
		k := x.keeps()
		k.input.Put(1, 2, 3)
		k.receives(0, 2, writes(data, 2))
		k.regs.Queues[0].Fetched++
		k.regs.Bits, k.regs.Pending = 79, 3
		x.comesTo(t, k, func() { x.c.Type(1, 2, 3) })
	}
}
