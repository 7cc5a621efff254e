package vmmio

import (
	"math"
	"testing"

	"vireo/api"
	"vireo/queue"
)

// P18.1: the ID, what is offered with bit 32, so many queues, from 0 to 16, the space; all else is zero.
func TestNew(t *testing.T) {
	counts := map[int]int{
		math.MinInt: 0, math.MinInt32: 0, -16: 0, -1: 0, 0: 0, 1: 1, 2: 2, 15: 15, 16: 16, 17: 16, 32: 16, 256: 16,
		1 << 32: 16, 1<<32 + 1: 16, math.MaxInt: 16,
	}
	offers := map[uint64]uint64{
		0: 1 << 32, 1 << 32: 1 << 32, 1: 1<<32 | 1, 1 << 31: 1<<32 | 1<<31, 1 << 33: 3 << 32, 1 << 63: 1<<63 | 1<<32, ones: ones, ones &^ (1 << 32): ones, low: 0x1ffffffff,
	}
	for _, id := range []uint32{0, 2, 3, 1 << 31, low} {
		for offered, want := range offers {
			for queues, n := range counts {
				is(t, New(id, offered, queues), &Regs{ID: id, Offered: want, Queues: make([]queue.Queue, n)})
			}
		}
	}
	is(t, New(1, 0, 1, 0), &Regs{ID: 1, Offered: version1, Queues: make([]queue.Queue, 1), Space: []byte{0}})
	is(t, New(1, 0, 0, 7, 8, 9), &Regs{ID: 1, Offered: version1, Space: []byte{7, 8, 9}})
	row := make([]byte, 5000)
	row[4999] = 1
	is(t, New(1, 0, 0, row...), &Regs{ID: 1, Offered: version1, Space: row})
}

// P18.1: what stays is the ID, what is offered, how many queues there are, the generation and the space; all else is zero.
func TestReset(t *testing.T) {
	r := full()
	want := &Regs{ID: r.ID, Offered: r.Offered, Queues: make([]queue.Queue, 3), Gen: r.Gen, Space: r.Space}
	makes(t, r, (*Regs).Reset, want)
	makes(t, want, (*Regs).Reset, want)
	for _, n := range []int{0, 1, 16} {
		r := New(5, 0x70, n, 1, 2)
		want := copied(r)
		for i := range r.Queues {
			r.Queues[i] = full().Queues[i%3]
		}
		r.Agreed, r.Bits, r.Pending = ones, low, low
		makes(t, r, (*Regs).Reset, want)
	}
	// What isn't offered any more by hand isn't offered anew.
	makes(t, &Regs{Agreed: 1}, (*Regs).Reset, &Regs{})
}

// P18.1: Has of one bit, of several, of none, of which some, all or none are agreed on; what is offered isn't asked.
func TestHas(t *testing.T) {
	r := &Regs{Offered: ones, Agreed: 1<<63 | 1<<32 | 1<<28 | 1<<5 | 1}
	for i := range 64 {
		want := i == 63 || i == 32 || i == 28 || i == 5 || i == 0
		if got := r.Has(1 << i); got != want {
			t.Errorf("Has of bit %d: %v", i, got)
		}
	}
	for feature, want := range map[uint64]bool{
		0: false, ones: true, low: true, 3: true, 2: false, 6: false, 1<<32 | 1<<33: true, 1<<33 | 1<<34: false, 1<<63 | 1<<62: true,
		r.Agreed: true, ones &^ r.Agreed: false, ones&^r.Agreed | 32: true,
	} {
		if got := r.Has(feature); got != want {
			t.Errorf("Has of %#x: %v", feature, got)
		}
	}
	none := &Regs{Offered: ones, Bits: low}
	if none.Has(ones) || none.Has(0) {
		t.Errorf("something is agreed on")
	}
	if all := (&Regs{Agreed: ones}); !all.Has(1) || !all.Has(1<<32) || !all.Has(1<<63) || all.Has(0) {
		t.Errorf("something isn't agreed on")
	}
	makes(t, full(), func(r *Regs) { r.Has(ones) }, full())
}

// P18.1: Live asks for DriverOK, and that NeedsReset isn't set; no other bit counts.
func TestLive(t *testing.T) {
	for bits := range uint32(512) {
		want := hasBit(uint64(bits), 4) && !hasBit(uint64(bits), 64)
		if got := (&Regs{Bits: bits}).Live(); got != want {
			t.Errorf("Live with the bits %#x: %v", bits, got)
		}
	}
	for i := range 32 {
		bit := uint32(1) << i
		if got := (&Regs{Bits: bit}).Live(); got != (bit == 4) {
			t.Errorf("Live with the bit %d alone: %v", i, got)
		}
		if got := (&Regs{Bits: bit | 4}).Live(); got != (bit != 64) {
			t.Errorf("Live with the bit %d and DriverOK: %v", i, got)
		}
		if (&Regs{Bits: bit | 68}).Live() {
			t.Errorf("Live with the bit %d, DriverOK and NeedsReset", i)
		}
	}
	makes(t, full(), func(r *Regs) { r.Live() }, full())
}

// P18.1: the line is high while anything is Pending, whatever it is.
func TestLine(t *testing.T) {
	if (&Regs{Bits: low, Agreed: ones, Gen: 1}).Line() {
		t.Errorf("the line is high, without a cause")
	}
	for i := range 32 {
		if !(&Regs{Pending: 1 << i}).Line() {
			t.Errorf("the line is low, with the cause %d", i)
		}
	}
	r := New(1, 0, 1)
	for _, c := range []struct {
		raise, ack uint32
		want       bool
	}{{0, 0, false}, {UsedBit, 0, true}, {ConfigBit, UsedBit, true}, {0, ConfigBit, false}, {UsedBit | ConfigBit, 0, true}, {0, 1, true}, {0, 3, false}} {
		r.Raise(c.raise)
		drive(t, nil, r, [2]uint64{0x64, uint64(c.ack)})
		if r.Line() != c.want {
			t.Errorf("%+v: Line: %v", c, r.Line())
		}
	}
	makes(t, full(), func(r *Regs) { r.Line() }, full())
}

// P18.1: causes are Pending, too, beside those that were; whether the device is Live isn't asked.
func TestRaise(t *testing.T) {
	for was := range uint32(4) {
		for bits := range uint32(4) {
			for _, status := range []uint32{0, 15, 64, 79} {
				makes(t, &Regs{Pending: was, Bits: status}, func(r *Regs) { r.Raise(bits) }, &Regs{Pending: was | bits, Bits: status})
			}
		}
	}
	makes(t, full(), func(r *Regs) { r.Raise(0) }, full())
	makes(t, full(), func(r *Regs) { r.Raise(0x50000002) }, with(full(), func(r *Regs) { r.Pending = 0xf4a3a2a3 }))
	makes(t, full(), func(r *Regs) { r.Raise(low) }, with(full(), func(r *Regs) { r.Pending = low }))
}

// P18.1: NeedsReset is set; ConfigBit is raised just if DriverOK is set, were it set behind a Break, too.
func TestBreak(t *testing.T) {
	for bits := range uint32(256) {
		for was := range uint32(4) {
			want := &Regs{Bits: bits | 64, Pending: was}
			if hasBit(uint64(bits), 4) {
				want.Pending |= 2
			}
			makes(t, &Regs{Bits: bits, Pending: was}, (*Regs).Break, want)
			makes(t, want, (*Regs).Break, want)
		}
	}
	makes(t, full(), (*Regs).Break, full())
	makes(t, with(full(), func(r *Regs) { r.Bits, r.Pending = 0x104, 8 }), (*Regs).Break, with(full(), func(r *Regs) { r.Bits, r.Pending = 0x144, 10 }))
}

// P18.1: the space is that, the generation one more, also past its greatest number; ConfigBit is raised just if the device is Live.
func TestTell(t *testing.T) {
	for bits := range uint32(256) {
		for was := range uint32(4) {
			want := &Regs{Bits: bits, Pending: was, Gen: 8, Space: []byte{5, 6}}
			if hasBit(uint64(bits), 4) && !hasBit(uint64(bits), 64) {
				want.Pending |= 2
			}
			makes(t, &Regs{Bits: bits, Pending: was, Gen: 7, Space: []byte{1, 2, 3}}, func(r *Regs) { r.Tell(5, 6) }, want)
		}
	}
	for was, then := range map[uint32]uint32{0: 1, 1: 2, 255: 256, 65535: 65536, 1<<31 - 1: 1 << 31, low - 1: low, low: 0} {
		makes(t, &Regs{Gen: was}, func(r *Regs) { r.Tell() }, &Regs{Gen: then})
	}
	for _, space := range [][]byte{nil, {}, {0}, {9, 8, 7}, make([]byte, 20), make([]byte, 5000)} {
		makes(t, full(), func(r *Regs) { r.Tell(space...) }, with(full(), func(r *Regs) { r.Space, r.Gen = space, r.Gen+1 }))
	}
	r := New(1, 0, 1, 1, 2, 3)
	for i := range 5 {
		r.Tell(byte(i))
		loads(t, r, 0xfc, 4, uint64(i+1), true)
		loads(t, r, 0x100, 4, uint64(i), true)
	}
	r.Reset()
	loads(t, r, 0xfc, 4, 5, true)
	loads(t, r, 0x100, 1, 4, true)
}

// The names that a driver's and a device's side lean on.
func TestNumbers(t *testing.T) {
	if UsedBit != 1 || ConfigBit != 2 || Nothing != 0 || Restart != 1 || Notify != 2 || Config != 0x100 || api.FeatVersion1 != version1 {
		t.Errorf("other numbers than the document's")
	}
}
