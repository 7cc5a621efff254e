package bus

import (
	"testing"

	"vireo/api"
)

// waiting: a bus on which chains wait in each queue, and in the console's row bytes; of none of them the devices were told. The machine's context lets both sources.
func waiting(t *testing.T, features uint64) *bench {
	t.Helper()
	x := live(t, features)
	x.lets(t, 0, 1, 2)
	x.b.Type([]byte("typed")...)
	x.request(0, 3)
	x.offer(diskQueue, 7, reads(begins, 16), writes(data, sector), writes(ends, 1))
	x.m.Write(data+page, []byte("to be seen"))
	x.offer(receive, 8, writes(data+2*page, 4))
	x.offer(transmit, 9, reads(data+page, 10))
	x.wired(t, 0, 0)
	return x
}

// P21.2: a store that asks for Notify of the disk's queue: the request is served, and its source's line is high.
func TestNotifyOfTheDisk(t *testing.T) {
	x := waiting(t, 0)
	want := x.keeps()
	x.tells(t, diskQueue)
	want.m.Write(data, pattern(count*sector, 0)[3*sector:])
	want.m.Store(ends, 1, 0)
	want.m.Store(used(diskQueue)+2, 2, 1)
	want.m.Store(used(diskQueue)+4, 8, 513<<32|7)
	want.blk.Queues[0].Fetched, want.blk.Queues[0].Used, want.blk.Pending = 1, 1, 1
	want.requests = 1
	want.plic.High, want.plic.Waits = 2, 2
	x.is(t, want)
	x.lines(t, 0x800)
	if log := x.b.Blk.Log(); len(log) != 1 || log[0].Kind != 0 || log[0].Sector != 3 || log[0].Status != 0 || log[0].Count != 513 {
		t.Errorf("it served %+v", log)
	}
	// No more waits: nothing comes of it.
	x.tells(t, diskQueue)
	x.is(t, want)
}

// P21.2: a store that asks for Notify of a queue of the console: that one alone is served, and its source's line is high.
func TestNotifyOfTheConsole(t *testing.T) {
	x := waiting(t, 0)
	want := x.keeps()
	x.tells(t, transmit)
	want.m.Store(used(transmit)+2, 2, 1)
	want.m.Store(used(transmit)+4, 8, 9)
	want.tty.Queues[1].Fetched, want.tty.Queues[1].Used, want.tty.Pending = 1, 1, 1
	want.output = []byte("to be seen")
	want.plic.High, want.plic.Waits = 4, 4
	x.is(t, want)
	x.lines(t, 0x800)
	x.tells(t, receive)
	want.m.Write(data+2*page, []byte("type"))
	want.m.Store(used(receive)+2, 2, 1)
	want.m.Store(used(receive)+4, 8, 4<<32|8)
	want.tty.Queues[0].Fetched, want.tty.Queues[0].Used = 1, 1
	want.input.Take(4)
	x.is(t, want)
	x.tells(t, transmit)
	x.tells(t, receive)
	x.is(t, want)
}

// P21.2: a chain that is to receive waits while nothing does.
func TestNotifyWhileNothingWaits(t *testing.T) {
	x := live(t, eventIdx)
	x.offer(receive, 8, writes(data, 4))
	want := x.keeps()
	for range 3 {
		x.tells(t, receive)
		x.is(t, want)
	}
	for _, q := range []int{diskQueue, transmit} {
		x.tells(t, q)
		x.is(t, want)
	}
}

// P21.2: of numbers of which a device has no queue nothing comes, whatever waits; of a number the 32 lowest bits count.
func TestNotifyOfOtherNumbers(t *testing.T) {
	for device, queues := range map[uint64]uint64{blkAt: 1, ttyAt: 2} {
		x := waiting(t, 0)
		want := x.keeps()
		for _, n := range []uint64{queues, queues + 1, 3, 15, 16, 17, 255, 256, 65535, 65536, 1 << 31, 1<<31 + 1, 1<<32 - 1, 1<<33 - 1, ones} {
			x.put(t, device+notify, n)
			x.is(t, want)
		}
		x.put(t, device+notify, 1<<32)
		if x.b.Plic.High == 0 {
			t.Errorf("of the queue 0 nothing comes")
		}
	}
}

// P21.2: other registers and other places ask for nothing, and a store that may not be neither.
func TestOtherStoresServeNothing(t *testing.T) {
	x := waiting(t, 0)
	want := x.keeps()
	for _, device := range []uint64{blkAt, ttyAt} {
		for at := uint64(0); at < 0x200; at += 4 {
			if at == notify || at == 0x44 || at == status || at == 0x14 || at == 0x24 || at == 0x30 {
				continue
			}
			x.put(t, device+at, 0)
		}
		for _, n := range []int{1, 2, 3, 5, 6, 7, 8} {
			x.refuses(t, device+notify, n)
			x.refuses(t, device+notify-1, n)
		}
	}
	x.is(t, want)
}

// P21.2: a device that isn't Live serves nothing, as the driver has not come so far, has begun anew, or has broken it.
func TestNotifyOfDevicesThatAreNotLive(t *testing.T) {
	silent := func(x *bench) {
		t.Helper()
		want := x.keeps()
		for _, q := range []int{diskQueue, receive, transmit} {
			x.tells(t, q)
			x.is(t, want)
		}
		if len(x.b.Blk.Log()) != 0 {
			t.Errorf("a request was served")
		}
	}
	silent(fresh(t))
	x := fresh(t)
	for _, device := range []uint64{blkAt, ttyAt} {
		x.begin(t, device, 0)
	}
	x.b.Type(1, 2)
	x.request(0, 3)
	x.offer(diskQueue, 0, reads(begins, 16), writes(data, sector), writes(ends, 1))
	x.offer(receive, 0, writes(data, 1))
	x.offer(transmit, 0, reads(data, 1))
	silent(x)
	x = waiting(t, 0)
	x.put(t, blkAt+status, 0)
	x.put(t, ttyAt+status, 0)
	silent(x)
	x = waiting(t, 0)
	x.b.Blk.Break()
	x.b.TTY.Break()
	// The first store to either device tells the Plic of both.
	x.put(t, blkAt, 0)
	x.wired(t, 6, 6)
	silent(x)
}

// P21.2: a chain that may not be breaks its device: the source's line is high for it, and what was ahead was served.
func TestChainsThatMayNotBe(t *testing.T) {
	for _, q := range []int{diskQueue, receive, transmit} {
		x := live(t, 0)
		device, _ := deviceOf(q)
		source := uint64(1)
		if device == ttyAt {
			source = 2
		}
		x.lets(t, 1, 1, 2)
		x.b.Type(1, 2, 3)
		x.request(4, 0)
		x.offer(q, 0, reads(begins, 16), writes(ends, 1))
		x.loop(q, 5)
		x.offer(q, 2, reads(begins, 16), writes(ends, 1))
		x.tells(t, q)
		x.holds(t, used(q)+2, 2, 1)
		x.holds(t, device+status, 4, 79)
		x.holds(t, device+intStatus, 4, 3)
		x.holds(t, plicAt+0x1000, 4, 1<<source)
		x.lines(t, 0x200)
		want := x.keeps()
		x.tells(t, q)
		x.is(t, want)
		// What is acknowledged doesn't hold the line up any more; the source waits on.
		x.put(t, device+intAck, 1)
		x.wired(t, 1<<source, 1<<source)
		x.put(t, device+intAck, 2)
		x.wired(t, 0, 1<<source)
		x.lines(t, 0x200)
		x.holds(t, claim(1), 4, source)
		x.lines(t, 0)
		x.put(t, claim(1), source)
		x.lines(t, 0)
		// Begun anew, it serves.
		x.put(t, device+status, 0)
		x.begin(t, device, 0)
		x.put(t, device+status, 15)
		x.offer(q, 2, reads(begins, 16), writes(ends, 1))
		x.tells(t, q)
		x.holds(t, used(q)+2, 2, 1)
		x.lines(t, 0x200)
	}
}

// P21.2: a first chain that may not be: nothing is used, and the line is high.
func TestBreaksAtOnce(t *testing.T) {
	for _, q := range []int{diskQueue, receive, transmit} {
		x := live(t, 0)
		device, _ := deviceOf(q)
		x.b.Store(avail(q)+2, 2, entries+1)
		x.tells(t, q)
		x.holds(t, used(q)+2, 2, 0)
		x.holds(t, device+status, 4, 79)
		x.holds(t, device+intStatus, 4, 2)
		if high := x.b.Plic.High; high == 0 || high&(high-1) != 0 {
			t.Errorf("the sources whose lines are high are %b", high)
		}
		// A write of 0 to Status takes the cause away, and the line.
		x.put(t, device+status, 0)
		if p := x.b.Plic; p.High != 0 || p.Waits == 0 {
			t.Errorf("the sources whose lines are high are %b, those that wait %b", p.High, p.Waits)
		}
	}
}

// P21.2: behind an acknowledgement the line is what the device's is, and a source that is done with while its line is high waits again.
func TestAcknowledged(t *testing.T) {
	for _, q := range []int{diskQueue, transmit} {
		x := waiting(t, 0)
		device, _ := deviceOf(q)
		source, bit := uint64(1), uint32(2)
		if device == ttyAt {
			source, bit = 2, 4
		}
		x.tells(t, q)
		x.lines(t, 0x800)
		x.holds(t, claim(0), 4, source)
		x.wired(t, bit, 0)
		x.lines(t, 0)
		x.put(t, claim(0), source)
		x.wired(t, bit, bit)
		x.lines(t, 0x800)
		x.holds(t, claim(0), 4, source)
		// A cause that isn't pending may be acknowledged, and nothing comes of it.
		x.put(t, device+intAck, 2)
		x.wired(t, bit, 0)
		x.put(t, device+intAck, 1)
		x.wired(t, 0, 0)
		x.put(t, claim(0), source)
		x.wired(t, 0, 0)
		x.lines(t, 0)
		// The next one that is used raises it again.
		x.head(q, map[int]int{diskQueue: 7, transmit: 9}[q])
		x.tells(t, q)
		x.wired(t, bit, bit)
		x.lines(t, 0x800)
	}
}

// P21.2: behind a store to either device both sources' lines are what the devices' are, though it asks for nothing; behind stores to other parts they are as they were.
func TestBothLines(t *testing.T) {
	for i := range 16 {
		blkLine, ttyLine := i&1 != 0, i&2 != 0
		for _, device := range []uint64{blkAt, ttyAt} {
			x := live(t, 0)
			high := uint32(0)
			if blkLine {
				x.b.Blk.Raise(1)
				high |= 2
			}
			if ttyLine {
				x.b.TTY.Raise(2)
				high |= 4
			}
			// What the lines were told to be ahead of that.
			was := uint32(i) >> 2 << 1
			x.b.Plic.High = was
			want := x.keeps()
			x.put(t, base, 1)
			want.m.Store(base, 4, 1)
			x.put(t, clintAt+8, 1)
			x.put(t, plicAt+0x80, 1)
			x.holds(t, device+intStatus, 4, uint64(map[uint64]uint32{blkAt: want.blk.Pending, ttyAt: want.tty.Pending}[device]))
			x.b.Fetch(base)
			x.b.Lines()
			x.is(t, want)
			x.put(t, device+0x14, 0)
			want.plic.High = high
			// Of two lines that go up the second rouses; a line that goes down rouses none.
			switch {
			case ttyLine:
				want.plic.Waits = high
			case blkLine:
				want.plic.Waits = high | was
			}
			if ttyLine && blkLine {
				want.plic.Waits |= was
			}
			x.is(t, want)
		}
	}
}

// P21.2: a source that waits, or is being served, is told of its line without being roused by it.
func TestLineWhileServed(t *testing.T) {
	x := waiting(t, 0)
	x.tells(t, diskQueue)
	x.holds(t, claim(0), 4, 1)
	x.head(diskQueue, 7)
	x.tells(t, diskQueue)
	x.wired(t, 2, 0)
	x.tells(t, transmit)
	x.wired(t, 6, 4)
	x.holds(t, claim(0), 4, 2)
	x.lines(t, 0)
	x.put(t, claim(0), 1)
	x.wired(t, 6, 2)
	x.put(t, claim(0), 2)
	x.wired(t, 6, 6)
}

// P21.2: a driver that doesn't want to be told isn't: the chain is used, and the line stays low.
func TestNoInterrupt(t *testing.T) {
	for _, q := range []int{diskQueue, receive, transmit} {
		x := waiting(t, 0)
		x.b.Store(avail(q), 2, api.NoInterrupt)
		x.tells(t, q)
		x.holds(t, used(q)+2, 2, 1)
		x.wired(t, 0, 0)
		x.lines(t, 0)
	}
}

// P21.2: behind a store that a device's registers refuse the sources' lines are told, too: the chapter tells them behind each one.
func TestBothLinesBehindARefusedStore(t *testing.T) {
	for _, device := range []uint64{blkAt, ttyAt} {
		x := fresh(t)
		x.b.Blk.Raise(1)
		x.b.TTY.Raise(1)
		want := x.keeps()
		if x.b.Store(device, 8, 1) {
			t.Fatalf("Store: true")
		}
		want.plic.High, want.plic.Waits = 6, 6
		x.is(t, want)
	}
}
