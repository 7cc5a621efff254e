package tty

import (
	"bytes"
	"testing"

	"vireo/api"
)

// P20.3: of what is typed without a driver as much waits as there is room for; the answer is how much.
func TestType(t *testing.T) {
	for n, want := range map[int]int{0: 0, 1: 1, 2: 2, 255: 255, 256: 256, 4095: 4095, 4096: 4096, 4097: 4096, 5000: 4096, 8192: 4096, 65536: 4096} {
		x := fresh(t)
		k := x.keeps()
		list := pattern(n, 5)
		k.input.Put(list...)
		x.comesTo(t, k, func() {
			if came := x.c.Type(list...); came != want {
				t.Errorf("Type of %d bytes: %d, not %d", n, came, want)
			}
		})
		x.waits(t, list[:want], 0, uint64(n-want))
	}
}

// P20.3: bytes come behind those that wait; those for which there is no room are lost.
func TestTypeBehindOthers(t *testing.T) {
	x := fresh(t)
	var list []byte
	dropped := 0
	for i, n := range []int{0, 3, 1, 1000, 0, 3000, 91, 2, 5, 0, 4096, 1} {
		more := pattern(n, i)
		came := min(n, 4096-len(list))
		if got := x.c.Type(more...); got != came {
			t.Errorf("Type of %d bytes behind %d: %d", n, len(list), got)
		}
		list = append(list, more[:came]...)
		dropped += n - came
		x.waits(t, list, 0, uint64(dropped))
	}
	x.c.Input().Take(10)
	if got := x.c.Type(pattern(11, 7)...); got != 10 {
		t.Errorf("Type with room for 10 bytes: %d", got)
	}
	x.waits(t, append(list[10:], pattern(10, 7)...), 10, uint64(dropped+1))
}

// P20.3: of no bytes, too, the driver gets what waits.
func TestTypeOfNothing(t *testing.T) {
	x := live(t, 0)
	x.comesTo(t, x.keeps(), func() { x.c.Type() })
	x.c.Input().Put(1, 2, 3)
	x.offer(0, 0, writes(data, 2))
	k := x.keeps()
	k.receives(0, 2, writes(data, 2))
	x.comesTo(t, k, func() {
		if came := x.c.Type(); came != 0 {
			t.Errorf("Type of nothing: %d", came)
		}
	})
	x.raised(t, 1)
}

// P20.3: chains that wait get what is typed at once; first it comes into the row, which has its room, and then it is taken from there.
func TestTypeWithChains(t *testing.T) {
	for _, c := range []struct{ behind, n, room, came, taken int }{
		{0, 1, 1, 1, 1},
		{0, 1, 10, 1, 1},
		{0, 10, 1, 10, 1},
		{0, 4096, 4096, 4096, 4096},
		{0, 5000, 100, 4096, 100},
		{0, 5000, 5000, 4096, 4096},
		{0, 5000, 100000, 4096, 4096},
		{4096, 1, 10, 0, 10},
		{4090, 10, 4, 6, 4},
		{4000, 200, 5000, 96, 4096},
		{5, 3, 8, 3, 8},
	} {
		x := live(t, 0)
		x.c.Type(pattern(c.behind, 1)...)
		list := parts(uint64(c.room), uint64(c.room+3)/4)
		x.offer(0, 1, list...)
		k := x.keeps()
		typed := pattern(c.n, 9)
		k.input.Put(typed...)
		k.receives(1, c.taken, list...)
		x.comesTo(t, k, func() {
			if came := x.c.Type(typed...); came != c.came {
				t.Errorf("%+v: Type: %d", c, came)
			}
		})
		x.wasUsed(t, 0, [2]uint64{1, uint64(c.taken)})
		x.raised(t, 1)
	}
}

// P20.3: several chains that wait get their bytes one behind the other; what is left waits.
func TestTypeWithSeveralChains(t *testing.T) {
	x := live(t, 0)
	for i := range 4 {
		x.offer(0, i, writes(data+uint64(i)*page, uint64(2+i)))
	}
	k := x.keeps()
	k.input.Put(pattern(10, 0)...)
	for i, n := range []int{2, 3, 4, 1} {
		k.receives(i, n, writes(data+uint64(i)*page, uint64(2+i)))
	}
	x.comesTo(t, k, func() { x.c.Type(pattern(10, 0)...) })
	x.raised(t, 1)
	// No chain waits: the bytes do, and no interrupt comes.
	k = x.keeps()
	k.input.Put(1, 2)
	x.comesTo(t, k, func() { x.c.Type(1, 2) })
	x.raised(t, 0)
}

// P20.3: chains with no byte to be written come back, whatever is typed; and Type is nothing to Transmit.
func TestTypeIsForReceiveAlone(t *testing.T) {
	x := live(t, 0)
	x.offer(1, 0, reads(data, 5))
	x.offer(0, 0, reads(data, 5))
	k := x.keeps()
	k.input.Put(1)
	k.uses(0, 0, nil, nil)
	x.comesTo(t, k, func() { x.c.Type(1) })
	x.told(t, nil, 0)
	x.wasUsed(t, 1)
}

// P20.3: with a device that isn't Live bytes wait, and chains do; nothing comes of them till the driver tells of its queue, or something is typed.
func TestTypeWithoutALiveDevice(t *testing.T) {
	x := fresh(t)
	x.c.Type(1, 2)
	x.begin(t, 0)
	x.offer(0, 0, writes(data, 3))
	x.offer(0, 1, writes(data+8, 3))
	asleep := func() {
		t.Helper()
		k := x.keeps()
		k.input.Put(3)
		x.comesTo(t, k, func() {
			if came := x.c.Type(3); came != 1 {
				t.Fatalf("Type: %d", came)
			}
			x.c.Notified(Receive)
		})
	}
	asleep()
	x.drive(t, [2]uint64{0x70, 15}, [2]uint64{0x30, 0}, [2]uint64{0x44, 0})
	asleep()
	x.drive(t, [2]uint64{0x44, 1})
	x.c.Break()
	asleep()
	x.drive(t, [2]uint64{0x70, 0})
	asleep()
	x.begin(t, 0)
	x.drive(t, [2]uint64{0x70, 15})
	x.offer(0, 0, writes(data, 3))
	x.offer(0, 1, writes(data+8, 3))
	k := x.keeps()
	k.receives(0, 3, writes(data, 3))
	k.receives(1, 3, writes(data+8, 3))
	x.comesTo(t, k, func() { x.notify(t, 0) })
	if got := x.got([]api.Segment{reads(data, 3), reads(data+8, 3)}, false); !bytes.Equal(got, []byte{1, 2, 3, 3, 3, 3}) {
		t.Errorf("%x stands there", got)
	}
	x.waits(t, nil, 6, 0)
}

// P20.3: a chain that may not be breaks the device; what was typed waits, and the answer is what came.
func TestTypeThatBreaks(t *testing.T) {
	x := live(t, 0)
	x.offer(0, 0, writes(data, 2))
	x.offer(0, 1, writes(end-1, 2))
	k := x.keeps()
	k.input.Put(1, 2, 3)
	k.receives(0, 2, writes(data, 2))
	k.regs.Queues[0].Fetched++
	k.regs.Bits, k.regs.Pending = 79, 3
	x.comesTo(t, k, func() {
		if came := x.c.Type(1, 2, 3); came != 3 {
			t.Errorf("Type: %d", came)
		}
	})
	k.input.Put(4)
	x.comesTo(t, k, func() { x.c.Type(4) })
	x.waits(t, []byte{3, 4}, 2, 0)
}
