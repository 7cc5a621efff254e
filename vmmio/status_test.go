package vmmio

import (
	"testing"
)

// agreed: what may be agreed on of 3 features and bit 32 that are offered, and what may not.
var agreed = map[uint64]bool{
	version1: true, version1 | 1: true, version1 | 6: true, version1 | 7: true,
	0: false, 1: false, 7: false, version1 | 8: false, version1 | 15: false, version1 | 1<<31: false, version1 | 1<<33: false, version1 | 1<<63: false, ones: false, 1 << 33: false, low: false,
}

// P18.3: the chapter's examples.
func TestExamples(t *testing.T) {
	r := New(2, 0, 1)
	drive(t, nil, r, [2]uint64{0x70, 1}, [2]uint64{0x70, 3}, [2]uint64{0x24, 1}, [2]uint64{0x20, 1}, [2]uint64{0x70, 11})
	loads(t, r, 0x70, 4, 11, true)
	r = New(2, 0, 1)
	drive(t, nil, r, [2]uint64{0x70, 1}, [2]uint64{0x70, 3}, [2]uint64{0x20, 1}, [2]uint64{0x24, 1}, [2]uint64{0x20, 1}, [2]uint64{0x70, 11})
	loads(t, r, 0x70, 4, 3, true)
}

// P18.3: every status that is, and every byte that is written, with features that may be and that may not.
func TestStatus(t *testing.T) {
	m := made(t)
	for chosen, may := range agreed {
		for was := range uint32(256) {
			before := with(full(), func(r *Regs) { r.Offered, r.Agreed, r.Bits = version1|7, chosen, was })
			for v := uint32(1); v < 256; v++ {
				then := was | v&(1|2|128)
				if v&8 > 0 && may {
					then |= 8
				}
				if v&4 > 0 && then&8 > 0 {
					then |= 4
				}
				r := copied(before)
				if what, of, ok := r.Store(m, 0x70, 4, uint64(v)); what != 0 || of != 0 || !ok || r.Bits != then {
					t.Fatalf("%#x agreed, Status %#x: a write of %#x: %d, %d, %v; %#x, not %#x", chosen, was, v, what, of, ok, r.Bits, then)
				}
				r.Bits = was
				is(t, r, before)
			}
		}
	}
}

// P18.3: bits that no driver sets, alone and beside others, change nothing; those that are set aren't taken away.
func TestStatusOfOtherBits(t *testing.T) {
	m := made(t)
	for i := range 64 {
		bit := uint64(1) << i
		if i == 0 || i == 1 || i == 2 || i == 3 || i == 7 || i >= 32 {
			continue
		}
		for _, was := range []uint32{0, 15, 64, low} {
			before := with(full(), func(r *Regs) { r.Bits = was })
			leaves(t, m, before, 0x70, bit)
			puts(t, m, before, 0x70, bit|1, with(before, func(r *Regs) { r.Bits |= 1 }))
			puts(t, m, before, 0x70, bit|1<<40|128, with(before, func(r *Regs) { r.Bits |= 128 }))
		}
	}
	free := New(1, ones, 1)
	free.Agreed = ones
	puts(t, m, free, 0x70, ones, with(free, func(r *Regs) { r.Bits = 1 | 2 | 4 | 8 | 128 }))
	puts(t, m, free, 0x70, 64|8, with(free, func(r *Regs) { r.Bits = 8 }))
	puts(t, m, free, 0x70, 64|4, free)
}

// P18.3: FeaturesOK is set just if what is agreed on was offered, and bit 32 is agreed on; bit by bit.
func TestStatusOfFeatures(t *testing.T) {
	m := made(t)
	for i := range 64 {
		bit := uint64(1) << i
		for _, offered := range []uint64{0, bit, ones, ones &^ bit} {
			r := New(1, offered, 1)
			r.Agreed = version1 | bit
			want := copied(r)
			if offered&bit > 0 || i == 32 {
				want.Bits = 8
			}
			puts(t, m, r, 0x70, 8, want)
			r.Agreed, want.Agreed, want.Bits = bit, bit, 0
			if i == 32 {
				want.Bits = 8
			}
			puts(t, m, r, 0x70, 8, want)
		}
	}
	// Bit 32 must have been offered, too: that it wasn't comes by hand alone.
	r := &Regs{Agreed: version1}
	leaves(t, m, r, 0x70, 8)
	leaves(t, m, r, 0x70, 12)
}

// P18.3: FeaturesOK that is set stays, though what was agreed on might not be any more.
func TestFeaturesStay(t *testing.T) {
	m := made(t)
	for chosen := range agreed {
		before := &Regs{Offered: version1 | 7, Agreed: chosen, Bits: 11}
		leaves(t, m, before, 0x70, 8)
		leaves(t, m, before, 0x70, 3)
		puts(t, m, before, 0x70, 4, with(before, func(r *Regs) { r.Bits = 15 }))
		puts(t, m, before, 0x70, 12, with(before, func(r *Regs) { r.Bits = 15 }))
	}
}

// P18.3: DriverOK isn't set without FeaturesOK, be that set ahead or by the same write.
func TestDriverOK(t *testing.T) {
	m := made(t)
	good := &Regs{Offered: version1, Agreed: version1}
	bad := &Regs{Offered: version1, Agreed: version1 | 1}
	status := func(r *Regs, bits uint32) *Regs { return with(r, func(r *Regs) { r.Bits = bits }) }
	leaves(t, m, good, 0x70, 4)
	puts(t, m, good, 0x70, 7, status(good, 3))
	puts(t, m, good, 0x70, 12, status(good, 12))
	puts(t, m, good, 0x70, 15, status(good, 15))
	puts(t, m, status(good, 8), 0x70, 4, status(good, 12))
	puts(t, m, status(good, 11), 0x70, 15, status(good, 15))
	leaves(t, m, bad, 0x70, 12)
	puts(t, m, bad, 0x70, 15, status(bad, 3))
	puts(t, m, bad, 0x70, 143, status(bad, 131))
	r := copied(bad)
	drive(t, m, r, [2]uint64{0x70, 15}, [2]uint64{0x20, 0}, [2]uint64{0x70, 15})
	is(t, r, with(good, func(r *Regs) { r.Bits = 15 }))
}

// P18.3: a write of 0 is Reset: of what a driver did nothing is left.
func TestStatusOfZero(t *testing.T) {
	m := made(t)
	r := New(4, indirect|eventIdx, 2, 1, 2, 3)
	want := copied(r)
	for range 2 {
		drive(t, m, r, [2]uint64{0x70, 3}, [2]uint64{0x14, 1}, [2]uint64{0x20, indirect}, [2]uint64{0x24, 1}, [2]uint64{0x20, 1}, [2]uint64{0x70, 15})
		lays(t, m, r, 1, layout(1))
		r.Raise(UsedBit)
		r.Break()
		drive(t, m, r, [2]uint64{0x70, 0})
		is(t, r, want)
	}
}
