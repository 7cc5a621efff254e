package bus

import (
	"testing"

	"vireo/api"
)

// P21.1 to P21.3: a whole request to the disk, by loads and stores on the bus alone, from the first write to Status to the claim and its end.
func TestAWholeRequestToTheDisk(t *testing.T) {
	for context, line := range []uint64{0x800, 0x200} {
		context := uint64(context)
		x := fresh(t)
		x.holds(t, blkAt, 4, 0x74726976)
		x.holds(t, blkAt+4, 4, 2)
		x.holds(t, blkAt+8, 4, 2)
		x.holds(t, blkAt+0x100, 8, count)
		x.begin(t, blkAt, 0)
		x.holds(t, blkAt+status, 4, 11)
		x.put(t, blkAt+status, 15)
		x.holds(t, blkAt+status, 4, 15)
		x.put(t, plicAt+4, 5)
		x.put(t, plicAt+0x2000+0x80*context, 2)
		x.put(t, plicAt+0x200000+0x1000*context, 4)
		// The eighth of the document's examples: of sector 3, 512 bytes.
		x.request(0, 3)
		x.stores(t, ends, 1, 99)
		x.offer(diskQueue, 4, reads(begins, 16), writes(data, sector), writes(ends, 1))
		x.lines(t, 0)
		x.tells(t, diskQueue)
		x.lines(t, line)
		x.holds(t, claim(1-context), 4, 0)
		x.holds(t, claim(context), 4, 1)
		x.lines(t, 0)
		x.holds(t, blkAt+intStatus, 4, 1)
		x.put(t, blkAt+intAck, 1)
		x.holds(t, blkAt+intStatus, 4, 0)
		x.wasUsed(t, diskQueue, [2]uint64{4, 513})
		x.stands(t, data, pattern(count*sector, 0)[3*sector:])
		x.holds(t, ends, 1, 0)
		x.put(t, claim(context), 1)
		x.lines(t, 0)
		x.holds(t, claim(context), 4, 0)
		// What was read is written a sector further ahead.
		x.request(1, 2)
		x.offer(diskQueue, 8, reads(begins, 16), reads(data, sector), writes(ends, 1))
		x.tells(t, diskQueue)
		x.wasUsed(t, diskQueue, [2]uint64{4, 513}, [2]uint64{8, 1})
		x.holds(t, claim(context), 4, 1)
		x.put(t, blkAt+intAck, 1)
		x.put(t, claim(context), 1)
		if got, _ := x.d.Sector(2); string(got) != string(pattern(count*sector, 0)[3*sector:]) {
			t.Errorf("the sector holds %.40x", got)
		}
		x.lines(t, 0)
	}
}

// P21.1: the disk's device has the name that it was given.
func TestTheDisksName(t *testing.T) {
	x := live(t, 0)
	x.request(8, 0)
	x.offer(diskQueue, 0, reads(begins, 16), writes(data, 20), writes(ends, 1))
	x.tells(t, diskQueue)
	x.wasUsed(t, diskQueue, [2]uint64{0, 21})
	x.stands(t, data, append([]byte("a disk"), make([]byte, 14)...))
}

// P21.2: a fault of the disk ends a request with an error, and the line is high as behind another.
func TestAFaultOfTheDisk(t *testing.T) {
	x := live(t, 0)
	x.lets(t, 0, 1)
	x.d.Fail(1)
	x.request(0, 3)
	x.offer(diskQueue, 4, reads(begins, 16), writes(data, sector), writes(ends, 1))
	x.tells(t, diskQueue)
	x.wasUsed(t, diskQueue, [2]uint64{4, 1})
	x.holds(t, ends, 1, 1)
	x.lines(t, 0x800)
	x.holds(t, claim(0), 4, 1)
}

// P21.1 to P21.3: a whole transmission, and what is typed received, by loads and stores on the bus alone, from the first write to Status to the claim and its end.
func TestAWholeTransmission(t *testing.T) {
	for context, line := range []uint64{0x800, 0x200} {
		context := uint64(context)
		x := fresh(t)
		x.holds(t, ttyAt, 4, 0x74726976)
		x.holds(t, ttyAt+8, 4, 3)
		x.begin(t, ttyAt, 0)
		x.put(t, ttyAt+status, 15)
		x.holds(t, ttyAt+status, 4, 15)
		x.put(t, plicAt+8, 7)
		x.put(t, plicAt+0x2000+0x80*context, 4)
		x.put(t, plicAt+0x200000+0x1000*context, 6)
		for i, c := range []byte("hello\n") {
			x.stores(t, data+uint64(i), 1, uint64(c))
		}
		x.offer(transmit, 60, reads(data, 2), reads(data+2, 4))
		x.lines(t, 0)
		x.tells(t, transmit)
		x.lines(t, line)
		x.holds(t, claim(context), 4, 2)
		x.holds(t, ttyAt+intStatus, 4, 1)
		x.put(t, ttyAt+intAck, 1)
		x.wasUsed(t, transmit, [2]uint64{60, 0})
		x.put(t, claim(context), 2)
		x.lines(t, 0)
		if got := string(x.b.TTY.Output()); got != "hello\n" {
			t.Errorf("%q was transmitted", got)
		}
		x.offer(receive, 9, writes(data+page, 100))
		x.tells(t, receive)
		x.lines(t, 0)
		if came := x.b.Type([]byte("and back")...); came != 8 {
			t.Errorf("Type: %d", came)
		}
		x.lines(t, line)
		x.holds(t, claim(context), 4, 2)
		x.holds(t, ttyAt+intStatus, 4, 1)
		x.put(t, ttyAt+intAck, 1)
		x.wasUsed(t, receive, [2]uint64{9, 8})
		x.stands(t, data+page, []byte("and back"))
		x.put(t, claim(context), 2)
		x.lines(t, 0)
	}
}

// P21.2: both devices at once, with numbers for events and by tables: of two sources that wait the one of the greater priority is claimed first.
func TestBothDevices(t *testing.T) {
	x := live(t, indirect|eventIdx)
	x.lets(t, 0, 1, 2)
	x.lets(t, 1, 1)
	x.request(0, 1)
	// A table of three descriptors in a page of its own, for the disk.
	const own = base + 20*page
	x.desc(own, 0, api.Desc{Addr: begins, Len: 16, Flags: 1, Next: 1})
	x.desc(own, 1, api.Desc{Addr: data, Len: sector, Flags: 3, Next: 2})
	x.desc(own, 2, api.Desc{Addr: ends, Len: 1, Flags: 2})
	x.desc(table(diskQueue), 3, api.Desc{Addr: own, Len: 48, Flags: 4})
	x.head(diskQueue, 3)
	x.tells(t, diskQueue)
	x.offer(transmit, 0, reads(data, 3))
	x.tells(t, transmit)
	x.wasUsed(t, diskQueue, [2]uint64{3, 513})
	x.wasUsed(t, transmit, [2]uint64{0, 0})
	if got := string(x.b.TTY.Output()); got != string(pattern(count*sector, 0)[sector:sector+3]) {
		t.Errorf("%x was transmitted", got)
	}
	x.lines(t, 0xa00)
	x.holds(t, claim(0), 4, 2)
	x.lines(t, 0xa00)
	x.holds(t, claim(1), 4, 1)
	x.lines(t, 0)
	x.put(t, blkAt+intAck, 1)
	x.put(t, claim(1), 1)
	x.put(t, claim(0), 2)
	x.lines(t, 0x800)
	x.put(t, ttyAt+intAck, 1)
	x.holds(t, claim(0), 4, 2)
	x.put(t, claim(0), 2)
	x.lines(t, 0)
}

// P21.2: what a device writes it writes to memory alone: a chain that names the devices' own places may not be.
func TestChainsOfOtherPlaces(t *testing.T) {
	for _, at := range []uint64{blkAt, ttyAt, clintAt, plicAt, end, base - 1, 0} {
		for _, q := range []int{diskQueue, receive, transmit} {
			x := live(t, 0)
			x.b.Type(1, 2, 3)
			x.offer(q, 0, writes(at, 4))
			want := x.keeps()
			x.tells(t, q)
			device, number := deviceOf(q)
			regs, high := &want.blk, uint32(2)
			if device == ttyAt {
				regs, high = &want.tty, 4
			}
			regs.Queues[number].Fetched, regs.Bits, regs.Pending = 1, 79, 2
			want.plic.High, want.plic.Waits = high, high
			x.is(t, want)
		}
	}
}
