package tty

import (
	"bytes"
	"math"
	"math/rand"
	"slices"
	"testing"

	"vireo/api"
	"vireo/ram"
	"vireo/ring"
)

// P1: no memory, and a device that New didn't make: nothing comes of it, and no call panics.
func TestWithoutAnything(t *testing.T) {
	for _, c := range []*TTY{New(nil), {}} {
		for _, n := range []int{0, 1, 2, -1, math.MinInt, math.MaxInt} {
			c.Notified(n)
		}
		if c.Live() || c.Line() || len(c.Output()) != 0 || c.Lost() != 0 {
			t.Errorf("it has something")
		}
	}
	x := &bench{nil, New(nil)}
	if came := x.c.Type(pattern(5000, 0)...); came != 4096 {
		t.Errorf("Type: %d", came)
	}
	x.waits(t, pattern(4096, 0), 0, 904)
	if came := (&TTY{}).Type(1, 2); came != 0 || (&TTY{}).Input() != nil {
		t.Errorf("Type: %d", came)
	}
	// A device without memory, to which a driver speaks: its queues can't be there.
	m := memory(t, size)
	x.drive(t, [2]uint64{0x70, 3}, [2]uint64{0x24, 1}, [2]uint64{0x20, 1}, [2]uint64{0x70, 11})
	y := &bench{m, x.c}
	y.begin(t, 0)
	y.drive(t, [2]uint64{0x70, 15})
	y.c.Type(1)
	y.c.Notified(Transmit)
	y.told(t, nil, 0)
	if y.c.Live() {
		t.Errorf("it is Live, and its queues don't lie in its memory")
	}
}

// someDesc: the descriptor number n: mostly one of small pieces, that leads to one further on.
func someDesc(chance *rand.Rand, n uint64) api.Desc {
	d := api.Desc{Addr: base + uint64(chance.Intn(size)), Len: uint32(someLen(chance)), Next: uint16(n + 1)}
	d.Flags = uint16([]int{0, 0, 1, 2, 2, 3}[chance.Intn(6)])
	switch chance.Intn(200) {
	case 0:
		d.Flags = uint16(chance.Intn(8))
	case 1:
		d.Next = uint16(chance.Intn(66))
	case 2:
		d.Addr = []uint64{0, base - 1, end - 1, end, 1 << 63, ones - 15, ones}[chance.Intn(7)]
	case 3:
		d.Len = []uint32{16, 32, 4096, math.MaxUint32, size}[chance.Intn(5)]
	case 4:
		// A piece of the queues themselves: of the numbers that tell what is offered and used, too.
		d.Addr = base + uint64(chance.Intn(2*page))
	}
	return d
}

// P1: whatever bytes a driver lays, and whatever its chains name, the queues' own pieces among it, a service ends, and what is told is within its bounds.
func TestAnyBytes(t *testing.T) {
	chance := rand.New(rand.NewSource(23))
	received, transmitted, broke := 0, 0, 0
	for i := range 1000 {
		x := live(t, []uint64{0, indirect, eventIdx, indirect | eventIdx}[i%4])
		list := make([]byte, 2*page)
		chance.Read(list)
		x.m.Write(base, list)
		for n := range 2 {
			for j := range uint64(entries) {
				x.m.Write(table(n)+16*j, ring.Bytes(someDesc(chance, j)))
				x.m.Store(avail(n)+4+2*j, 2, uint64(chance.Intn(entries)))
			}
			x.m.Store(avail(n)+2, 2, uint64(1+chance.Intn(entries)))
		}
		typed := 0
		for range 4 {
			typed += x.c.Type(pattern(chance.Intn(5000), i)...)
			x.notify(t, 1)
			x.notify(t, 0)
			x.drive(t, [2]uint64{0x64, 3})
		}
		if n := len(x.c.Output()); n > shown || n < shown && x.c.Lost() > 0 {
			t.Fatalf("%d bytes are kept, %d aren't", n, x.c.Lost())
		}
		f := x.c.Input()
		if f.Len() > row || f.Taken()+uint64(f.Len()) != uint64(typed) {
			t.Fatalf("%d were typed, %d taken, %d wait", typed, f.Taken(), f.Len())
		}
		received += int(f.Taken())
		transmitted += len(x.c.Output())
		if !x.c.Live() {
			broke++
		}
	}
	if received < 50000 || transmitted < 50000 || broke < 100 || broke > 990 {
		t.Errorf("%d were received, %d transmitted, %d devices broke", received, transmitted, broke)
	}
}

// P1: a driver whose chains write over what it offers, so that ever more is: a service ends.
func TestOfferedByTheChainsThemselves(t *testing.T) {
	x := live(t, 0)
	// Each chain's bytes come where the number stands that tells how many are offered: always more than were fetched.
	x.offer(0, 0, writes(avail(0)+2, 2))
	var list []byte
	for i := range 2048 {
		list = append(list, byte(i+2), byte((i+2)>>8))
	}
	x.c.Type(list...)
	if x.c.Input().Len() != 0 || x.c.Queues[0].Used != 2048 || !x.c.Live() {
		t.Errorf("%d bytes wait, %d chains were used, Status %d", x.c.Input().Len(), x.c.Queues[0].Used, x.c.Bits)
	}
	// What the device used lies where the driver's offers do.
	y := live(t, 0)
	y.drive(t, [2]uint64{0x30, 1}, [2]uint64{0x44, 0}, [2]uint64{0xa0, avail(1)}, [2]uint64{0x44, 1})
	y.offer(1, 0, reads(data, 3))
	text := y.got([]api.Segment{reads(data, 3)}, false)
	y.notify(t, 1)
	y.told(t, text, 0)
}

// P2, rule 4: what is typed is neither changed nor kept, its spare room neither.
func TestWhatIsTypedStaysTheAskers(t *testing.T) {
	for _, x := range []*bench{fresh(t), live(t, 0)} {
		if x.c.Live() {
			x.offer(0, 0, writes(data, 3))
		}
		list := pattern(100, 0)
		x.c.Type(list[:10]...)
		if !bytes.Equal(list, pattern(100, 0)) {
			t.Fatalf("what was typed has become %x", list)
		}
		was := x.keeps()
		for i := range list {
			list[i] = 0xee
		}
		x.is(t, was)
		x.c.Type(1, 2, 3)
		for _, c := range list {
			if c != 0xee {
				t.Fatalf("what was typed has become %x", list)
			}
		}
	}
}

// P2, rule 4: what is told hangs on what was called alone: two devices to which the same happens are alike, and asking changes nothing.
func TestTheSameTwice(t *testing.T) {
	one, two := rand.New(rand.NewSource(24)), rand.New(rand.NewSource(24))
	x, y := live(t, 0), live(t, 0)
	o, p := &model{memory: x.all()}, &model{memory: y.all()}
	for range 300 {
		x.someEvent(t, one, o)
		y.someEvent(t, two, p)
		for range 2 {
			x.c.Output()
			x.c.Lost()
			x.c.Input().Peek(3)
			x.c.Live()
			x.c.Line()
		}
		x.is(t, y.keeps())
	}
	if x.c.Input().Taken() == 0 || len(x.c.Output()) == 0 {
		t.Errorf("nothing has happened")
	}
}

// P2, rule 4: what came into memory is the memory's own, and what came from it isn't any more.
func TestNothingIsShared(t *testing.T) {
	x := live(t, 0)
	x.c.Type(1, 2, 3, 4, 5, 6)
	x.offer(0, 0, writes(data, 4))
	x.notify(t, 0)
	x.m.Write(data, bytes.Repeat([]byte{0xee}, 10))
	x.waits(t, []byte{5, 6}, 4, 0)
	for i := range 5 {
		text := pattern(100, i)
		x.m.Write(data, text)
		x.offer(1, 0, reads(data, 100))
		x.notify(t, 1)
		out := x.c.Output()
		x.m.Write(data, make([]byte, 100))
		x.told(t, out, 0)
		if !bytes.Equal(out[100*i:], text) {
			t.Fatalf("%x was transmitted, not %x", out[100*i:], text)
		}
	}
}

// P2, rule 4: a device works on the memory that it was made of, and on no other, whose driver's writes it may be told of by.
func TestTheMemoryIsItsOwn(t *testing.T) {
	x := live(t, 0)
	other := x.m.Copy()
	x.c.Type(1, 2)
	x.offer(0, 0, writes(data, 2))
	k := x.keeps()
	k.receives(0, 2, writes(data, 2))
	was := other.Copy()
	x.comesTo(t, k, func() {
		if what, n, ok := x.c.Store(other, 0x50, 4, 0); !ok || n != 0 || what == 0 {
			t.Fatalf("Store: %d, %d, %v", what, n, ok)
		}
		x.c.Notified(0)
	})
	if !ram.Same(other, was) {
		t.Errorf("another memory has changed: %x", ram.Differ(other, was, 3))
	}
	if !slices.Equal(x.got([]api.Segment{reads(data, 2)}, false), []byte{1, 2}) {
		t.Errorf("the bytes don't stand there")
	}
}
