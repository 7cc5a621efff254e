package bus

import (
	"testing"
)

// P21.3: bytes that no chain can have yet wait; nothing else changes, and how many came is told.
func TestTypeWithoutChains(t *testing.T) {
	for _, x := range []*bench{fresh(t), live(t, 0)} {
		want := x.keeps()
		if came := x.b.Type([]byte("typed")...); came != 5 {
			t.Fatalf("Type: %d", came)
		}
		want.input.Put([]byte("typed")...)
		x.is(t, want)
		if came := x.b.Type(); came != 0 {
			t.Fatalf("Type of nothing: %d", came)
		}
		x.is(t, want)
		if came := x.b.Type(pattern(5000, 0)...); came != 4091 {
			t.Fatalf("Type: %d", came)
		}
		want.input.Put(pattern(5000, 0)...)
		x.is(t, want)
		if lost := x.b.TTY.Input().Lost(); lost != 909 {
			t.Fatalf("%d are lost", lost)
		}
		if came := x.b.Type(1); came != 0 {
			t.Fatalf("Type into a row without room: %d", came)
		}
		x.wired(t, 0, 0)
		x.lines(t, 0)
	}
}

// The ninth of the document's examples.
func TestTypeExample(t *testing.T) {
	x := fresh(t)
	if came := x.b.Type(make([]byte, 5000)...); came != 4096 || x.b.TTY.Input().Lost() != 904 {
		t.Errorf("Type: %d, %d are lost", came, x.b.TTY.Input().Lost())
	}
}

// P21.3: bytes for which a chain waits stand there, and the console's source's line is high.
func TestTypeWithChains(t *testing.T) {
	x := live(t, 0)
	x.lets(t, 0, 2)
	x.offer(receive, 8, writes(data, 3))
	x.tells(t, receive)
	x.offer(receive, 9, writes(data+8, 5))
	x.wired(t, 0, 0)
	want := x.keeps()
	if came := x.b.Type([]byte("typed")...); came != 5 {
		t.Fatalf("Type: %d", came)
	}
	want.m.Write(data, []byte("typ"))
	want.m.Write(data+8, []byte("ed"))
	want.m.Store(used(receive)+2, 2, 2)
	want.m.Store(used(receive)+4, 8, 3<<32|8)
	want.m.Store(used(receive)+12, 8, 2<<32|9)
	want.tty.Queues[0].Fetched, want.tty.Queues[0].Used, want.tty.Pending = 2, 2, 1
	want.input.Put([]byte("typed")...)
	want.input.Take(5)
	want.plic.High, want.plic.Waits = 4, 4
	x.is(t, want)
	x.lines(t, 0x800)
	x.holds(t, claim(0), 4, 2)
	x.put(t, ttyAt+intAck, 1)
	x.put(t, claim(0), 2)
	x.wired(t, 0, 0)
	// What waits a chain gets when nothing is typed, too, and the line is told again.
	x.b.Type(9)
	x.offer(receive, 10, writes(data, 1))
	if came := x.b.Type(); came != 0 {
		t.Fatalf("Type of nothing: %d", came)
	}
	x.stands(t, data, []byte{9})
	x.wired(t, 4, 4)
}

// P21.3: chains that wait in other queues aren't served by what is typed.
func TestTypeServesReceiveAlone(t *testing.T) {
	x := waiting(t, 0)
	want := x.keeps()
	want.m.Write(data+2*page, []byte("type"))
	want.m.Store(used(receive)+2, 2, 1)
	want.m.Store(used(receive)+4, 8, 4<<32|8)
	want.tty.Queues[0].Fetched, want.tty.Queues[0].Used, want.tty.Pending = 1, 1, 1
	want.input.Put('!')
	want.input.Take(4)
	want.plic.High, want.plic.Waits = 4, 4
	if came := x.b.Type('!'); came != 1 {
		t.Fatalf("Type: %d", came)
	}
	x.is(t, want)
}

// P21.3: a chain that may not be: the bytes came, and wait; the device is broken, and its line high.
func TestTypeOntoAChainThatMayNotBe(t *testing.T) {
	x := live(t, 0)
	x.lets(t, 1, 2)
	x.loop(receive, 5)
	if came := x.b.Type(1, 2, 3); came != 3 {
		t.Fatalf("Type: %d", came)
	}
	x.holds(t, ttyAt+status, 4, 79)
	x.holds(t, ttyAt+intStatus, 4, 2)
	x.wired(t, 4, 4)
	x.lines(t, 0x200)
	want := x.keeps()
	if came := x.b.Type(4); came != 1 {
		t.Fatalf("Type: %d", came)
	}
	want.input.Put(4)
	x.is(t, want)
	if x.b.TTY.Input().Len() != 4 {
		t.Errorf("%d bytes wait", x.b.TTY.Input().Len())
	}
}

// P21.3: behind Type both sources' lines are what the devices' are.
func TestTypeTellsOfBothLines(t *testing.T) {
	for _, data := range [][]byte{nil, {1}} {
		x := fresh(t)
		x.b.Blk.Raise(1)
		x.b.Type(data...)
		x.wired(t, 2, 2)
		x.b.TTY.Raise(1)
		x.b.Type(data...)
		x.wired(t, 6, 6)
		x.b.Blk.Store(x.m, intAck, 4, 1)
		x.b.TTY.Store(x.m, intAck, 4, 1)
		x.b.Type(data...)
		x.wired(t, 0, 6)
	}
}

// P21.3: of the time, of the software's bit, and of both contexts, apart and together.
func TestLines(t *testing.T) {
	for i := range 16 {
		x := fresh(t)
		want := uint64(0)
		if i&1 != 0 {
			x.put(t, clintAt, 1)
			want |= 0x8
		}
		x.stores(t, clintAt+0x4000, 8, 6)
		x.b.Clint.Tick(5)
		if i&2 != 0 {
			x.b.Clint.Tick(1)
			want |= 0x80
		}
		if i&4 != 0 {
			x.lets(t, 0, 1)
			want |= 0x800
		}
		if i&8 != 0 {
			x.lets(t, 1, 1)
			want |= 0x200
		}
		x.put(t, plicAt+4, 1)
		x.b.Plic.Line(1, true)
		was := x.keeps()
		x.lines(t, want)
		x.lines(t, want)
		x.is(t, was)
		// A priority that isn't enough, and one of 0, hold no line up.
		x.put(t, plicAt+0x200000, 1)
		x.lines(t, want&^0x800)
		x.put(t, plicAt+0x201000, 1)
		x.lines(t, want&^0xa00)
		x.put(t, plicAt+0x200000, 0)
		x.put(t, plicAt+0x201000, 0)
		x.lines(t, want)
		x.put(t, plicAt+4, 0)
		x.lines(t, want&^0xa00)
	}
}

// P21.3: lines begin and end by loads and stores on the bus alone.
func TestLinesComeAndGo(t *testing.T) {
	x := fresh(t)
	x.lines(t, 0)
	x.stores(t, clintAt+0x4000, 8, 0)
	x.lines(t, 0x80)
	x.stores(t, clintAt+0x4004, 4, 1)
	x.lines(t, 0)
	x.stores(t, clintAt+0xbff8, 8, 1<<32)
	x.lines(t, 0x80)
	x.stores(t, clintAt, 8, 1)
	x.lines(t, 0x88)
	x.stores(t, clintAt+0x4000, 8, ones)
	x.lines(t, 8)
	x.stores(t, clintAt, 4, 0)
	x.lines(t, 0)
}
