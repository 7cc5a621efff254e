package tty

import (
	"bytes"
	"testing"

	"vireo/api"
)

// sent: the same pieces as bytes that are to be read.
func sent(list []api.Segment) []api.Segment {
	out := make([]api.Segment, len(list))
	for i, s := range list {
		out[i] = reads(s.At, s.Len)
	}
	return out
}

// P20.2: all bytes of a chain that are to be read come to what was transmitted, in order; those that are to be written don't change; 0 were written.
func TestTransmit(t *testing.T) {
	for _, list := range [][]api.Segment{
		{reads(data, 0)},
		{reads(data, 1)},
		{reads(data+7, 2)},
		{reads(data+5, 5000)},
		{reads(end-1, 1), reads(data, 1)},
		{reads(data+3, 4), reads(data+2, 4), reads(data, 0), reads(data+1, 4), reads(data+3, 4)},
		{writes(data, 1)},
		{writes(data, 5000), writes(end, 0)},
		{reads(data, 1), writes(data, 1)},
		{reads(data+page, 3), reads(data, 0), reads(data, 2*page), writes(data, 100), writes(data+5*page, 1)},
		{reads(base, 2*page)},
		sent(parts(1000, 37)),
		append(sent(parts(5000, 300)), parts(1000, 500)...),
	} {
		x := live(t, 0)
		x.c.Type(1, 2, 3)
		x.offer(1, 5, list...)
		text := x.got(list, false)
		k := x.keeps()
		k.shows(5, text, list...)
		x.comesTo(t, k, func() { x.c.Notified(Transmit) })
		x.wasUsed(t, 1, [2]uint64{5, 0})
		x.told(t, text, 0)
		x.raised(t, 1)
	}
}

// P20.2, P20.4: several chains of one service and of several come in order.
func TestTransmitBySeveralChains(t *testing.T) {
	x := live(t, 0)
	var all []byte
	var told [][2]uint64
	for i, n := range []int{1, 3, 1, 5} {
		var texts [][]byte
		for j := range n {
			list := sent(parts(uint64(100*i+7*j), 80+uint64(j)))
			x.offer(1, 48-12*j, list...)
			texts = append(texts, x.got(list, false))
		}
		k := x.keeps()
		for j, text := range texts {
			k.shows(48-12*j, text)
			all = append(all, text...)
			told = append(told, [2]uint64{uint64(48 - 12*j), 0})
		}
		x.comesTo(t, k, func() { x.notify(t, 1) })
		x.told(t, all, 0)
		x.wasUsed(t, 1, told...)
		x.raised(t, 1)
	}
	k := x.keeps()
	x.comesTo(t, k, func() { x.notify(t, 1) })
	x.raised(t, 0)
}

// P20.1: the first 65536 bytes are kept, and how many there were behind them is told; of one chain.
func TestOutputOfOneChain(t *testing.T) {
	for _, n := range []uint64{0, 1, 65535, 65536, 65537, 70000, 131072, size - 2*page} {
		for _, list := range [][]api.Segment{
			{reads(data, n)},
			{reads(data, n/2), reads(data+n/2, 0), reads(data+n/2, n-n/2)},
			{reads(data, min(n, 1)), reads(data+min(n, 1), n-min(n, 1)), writes(data, 5)},
		} {
			x := live(t, 0)
			x.offer(1, 0, list...)
			k := x.keeps()
			k.shows(0, x.got(list, false), list...)
			x.comesTo(t, k, func() { x.c.Notified(Transmit) })
			kept := min(n, 65536)
			x.told(t, x.got([]api.Segment{reads(data, kept)}, false), n-kept)
		}
	}
}

// P20.1: the first 65536 bytes are kept of several chains, of one service and of several, too.
func TestOutputOfSeveralChains(t *testing.T) {
	for _, each := range []bool{false, true} {
		for _, sizes := range [][]uint64{
			{65535, 1, 1, 0, 5},
			{65536, 0, 1},
			{65535, 2},
			{0, 65537, 3},
			{1, 65536},
			{30000, 30000, 30000, 30000},
			{16384, 16384, 16384, 16384, 1, 16384},
			{131072, 131072, 1},
		} {
			x := live(t, 0)
			k := x.keeps()
			var all []byte
			for i, n := range sizes {
				list := []api.Segment{reads(data+uint64(i)*11, n)}
				x.offer(1, i, list...)
				text := x.got(list, false)
				all = append(all, text...)
				k.shows(i, text)
				if each {
					x.notify(t, 1)
					x.told(t, all[:min(len(all), 65536)], uint64(max(0, len(all)-65536)))
				}
			}
			x.notify(t, 1)
			x.told(t, all[:min(len(all), 65536)], uint64(max(0, len(all)-65536)))
			x.told(t, k.output, k.lost)
			if x.c.Queues[1].Used != uint16(len(sizes)) {
				t.Errorf("%d were used, of %d", x.c.Queues[1].Used, len(sizes))
			}
		}
	}
}

// P20.1: what isn't kept is counted beyond 32 bits; P1: a chain that names the same memory again and again, and is longer than any memory, ends.
func TestLostOfManyBytes(t *testing.T) {
	m := memory(t, uint64(api.MaxRAM))
	x := &bench{m, New(m)}
	x.begin(t, indirect)
	x.drive(t, [2]uint64{0x70, 15})
	var list []api.Segment
	for range 256 {
		list = append(list, reads(base, 1<<28))
	}
	lay(m, data, 0, list)
	m.Write(table(1), []byte{0, 0x20, 0, 0x80, 0, 0, 0, 0, 0, 0x10, 0, 0, 4, 0, 0, 0})
	x.offer(1, 1, reads(data, 10))
	x.head(1, 0)
	x.head(1, 0)
	x.offer(1, 2, reads(data, 7))
	first, _ := m.Read(data, 10)
	second, _ := m.Read(base, 65526)
	copy(second[used(1)-base:], []byte{0, 0, 1, 0, 1, 0, 0, 0}) // the first chain was used
	x.c.Notified(Transmit)
	x.told(t, append(first, second...), 2<<36+7+10-65536)
	x.wasUsed(t, 1, [2]uint64{1, 0}, [2]uint64{0, 0}, [2]uint64{0, 0}, [2]uint64{2, 0})
}

// P20.1: what Output told is a copy, and the asker's own, with its spare room.
func TestOutputIsTheAskersOwn(t *testing.T) {
	x := live(t, 0)
	var all []byte
	var told [][]byte
	for i := range 100 {
		n := uint64(i % 13)
		list := []api.Segment{reads(data+uint64(i), n)}
		x.offer(1, 0, list...)
		x.notify(t, 1)
		all = append(all, x.got(list, false)...)
		a, b := x.c.Output(), x.c.Output()
		if !bytes.Equal(a, all) || !bytes.Equal(b, all) {
			t.Fatalf("Output: %x and %x, not %x", a, b, all)
		}
		told = append(told, b)
		a = a[:cap(a)]
		for j := range a {
			a[j] = 0xee
		}
		x.told(t, all, 0)
	}
	n := 0
	for i, b := range told {
		n += i % 13
		if !bytes.Equal(b, all[:n]) {
			t.Fatalf("what was told has become %x", b)
		}
		b = append(b, 0xee, 0xee)
		x.told(t, all, 0)
	}
	// What the driver does to its memory behind it is nothing to what was transmitted.
	x.m.Write(data, make([]byte, page))
	x.told(t, all, 0)
}

// P20.2: a device that isn't Live transmits nothing; what was transmitted stays, whatever is done to the registers.
func TestTransmitWithoutALiveDevice(t *testing.T) {
	x := live(t, 0)
	x.offer(1, 0, reads(data, 4))
	x.notify(t, 1)
	text := x.c.Output()
	asleep := func() {
		t.Helper()
		x.offer(1, 1, reads(data+9, 2))
		x.comesTo(t, x.keeps(), func() {
			x.notify(t, 1)
			x.c.Notified(Transmit)
		})
		x.told(t, text, 0)
	}
	x.drive(t, [2]uint64{0x30, 1}, [2]uint64{0x44, 0})
	asleep()
	x.c.Break()
	asleep()
	x.drive(t, [2]uint64{0x70, 0})
	asleep()
	x.begin(t, 0)
	asleep()
	x.c.Reset()
	asleep()
	x.begin(t, 0)
	x.drive(t, [2]uint64{0x70, 15})
	list := []api.Segment{reads(data+9, 2)}
	x.offer(1, 1, list...)
	k := x.keeps()
	k.shows(1, x.got(list, false))
	x.comesTo(t, k, func() { x.notify(t, 1) })
	x.told(t, append(text, x.got(list, false)...), 0)
}
