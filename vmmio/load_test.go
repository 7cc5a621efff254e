package vmmio

import (
	"math/rand"
	"testing"
)

// P18.2: where an access may be: below 100 of 4 bytes at places divided by 4; from 100 on of 1, 2, 4 and 8, at places divided by so many, up to 1000. Neither Load nor Store changes anything elsewhere.
func TestWhereAccessesMayBe(t *testing.T) {
	r, m := full(), made(t)
	r.Space = make([]byte, 4000)
	for i := range r.Space {
		r.Space[i] = byte(i%253 + 1)
	}
	some := append([]int{1, 2, 4, 8}, strange...)
	for at := range uint64(4200) {
		for _, n := range some {
			if at < 272 || at > 4080 || n == 1 || n == 2 || n == 4 || n == 8 {
				may := at < 256 && n == 4 && at%4 == 0 || at >= 256 && (n == 1 || n == 2 || n == 4 || n == 8) && at%uint64(n) == 0 && at+uint64(n) <= 4096
				if got, ok := r.Load(at, n); ok != may || !ok && got != 0 {
					t.Fatalf("Load(%#x, %d): %#x, %v", at, n, got, ok)
				}
				if !may {
					stores(t, m, r, at, n, ones, asked{}, r)
				}
			}
		}
	}
	for _, at := range far {
		for _, n := range some {
			loads(t, r, at, n, 0, false)
			stores(t, m, r, at, n, 0, asked{}, r)
			stores(t, m, r, at, n, ones, asked{}, r)
		}
	}
}

// P18.2: a write of 0 to Status by an access that may not be isn't one, nor one that would ask for a queue.
func TestRefusedAsksForNothing(t *testing.T) {
	r, m := begun(t, 0, 2), made(t)
	r.Pending = 3
	for _, n := range append([]int{1, 2, 8}, strange...) {
		for _, at := range []uint64{0x70, 0x50, 0x64, 0x30, 0x44} {
			for _, w := range []uint64{0, 1, 3} {
				stores(t, m, r, at, n, w, asked{}, r)
			}
		}
	}
	for off := range uint64(4) {
		for _, at := range []uint64{0x70, 0x50, 0x64, 0x30, 0x44} {
			if off > 0 {
				stores(t, m, r, at+off, 4, 0, asked{}, r)
				stores(t, m, r, at-off, 4, 3, asked{}, r)
			}
		}
	}
}

// P18.2: what is read at each place of the table, and 0 between them; nothing changes.
func TestLoadOfTable(t *testing.T) {
	r := full()
	want := map[uint64]uint64{
		0: 0x74726976, 4: 2, 8: 0x04030201, 0xc: 0x6f657276, 0x10: 0x18171615, 0x34: 256, 0x44: 0, 0x60: 0xa4a3a2a1, 0x70: 0x94939241, 0xfc: 0xb4b3b2b1,
	}
	for at := uint64(0); at < 256; at += 4 {
		loads(t, r, at, 4, want[at], true)
	}
	r.QueueSel = 0
	loads(t, r, 0x44, 4, 1, true)
	zero := &Regs{}
	for at := uint64(0); at < 0x1000; at += 4 {
		loads(t, zero, at, 4, map[uint64]uint64{0: 0x74726976, 4: 2, 0xc: 0x6f657276}[at], true)
	}
	for _, id := range []uint32{0, 2, 3, low} {
		loads(t, New(id, 0, 1), 8, 4, uint64(id), true)
	}
}

// P18.2: each half of what is offered, by the half that is selected.
func TestLoadOfDevFeatures(t *testing.T) {
	for sel, want := range map[uint32]uint64{0: 0x14131211, 1: 0x18171615, 2: 0, 3: 0, 32: 0, 64: 0, 1 << 26: 0, 1 << 27: 0, 1<<27 + 1: 0, 1 << 31: 0, 1<<31 + 1: 0, low - 1: 0, low: 0} {
		for _, other := range []uint32{0, 1, 2} {
			r := with(full(), func(r *Regs) { r.DevSel, r.DrvSel = sel, other })
			loads(t, r, 0x10, 4, want, true)
		}
	}
	r := New(1, 0, 1)
	loads(t, r, 0x10, 4, 0, true)
	drive(t, nil, r, [2]uint64{0x14, 1})
	loads(t, r, 0x10, 4, 1, true)
	drive(t, nil, r, [2]uint64{0x14, 2})
	loads(t, r, 0x10, 4, 0, true)
}

// P18.2: QueueMax and QueueReady, of queues that there are and that there aren't, Ready and not.
func TestLoadOfQueues(t *testing.T) {
	for _, n := range []int{0, 1, 2, 16} {
		for _, sel := range []uint32{0, 1, 2, 14, 15, 16, 17, 32, 256, 1 << 31, 1<<31 + 1, low - 1, low} {
			for _, ready := range []bool{false, true} {
				r := New(1, 0, n)
				r.QueueSel = sel
				for i := range r.Queues {
					r.Queues[i].Ready = ready == (i == int(sel))
				}
				there, then := uint64(0), uint64(0)
				if int(sel) < n {
					there = 256
					if ready {
						then = 1
					}
				}
				loads(t, r, 0x34, 4, there, true)
				loads(t, r, 0x44, 4, then, true)
			}
		}
	}
}

// P18.2: the space byte by byte, the lowest first, 0 behind its end, by each number of bytes, across its end and up to 1000.
func TestLoadOfSpace(t *testing.T) {
	r := New(1, 0, 1, 0xc1, 0xc2, 0xc3, 0xc4, 0xc5, 0xc6, 0xc7, 0xc8, 0xc9, 0xca, 0xcb)
	for _, c := range []struct {
		at   uint64
		n    int
		want uint64
	}{
		{0x100, 1, 0xc1}, {0x101, 1, 0xc2}, {0x107, 1, 0xc8}, {0x10a, 1, 0xcb}, {0x10b, 1, 0}, {0xfff, 1, 0},
		{0x100, 2, 0xc2c1}, {0x102, 2, 0xc4c3}, {0x108, 2, 0xcac9}, {0x10a, 2, 0xcb}, {0x10c, 2, 0}, {0xffe, 2, 0},
		{0x100, 4, 0xc4c3c2c1}, {0x104, 4, 0xc8c7c6c5}, {0x108, 4, 0xcbcac9}, {0x10c, 4, 0}, {0xffc, 4, 0},
		{0x100, 8, 0xc8c7c6c5c4c3c2c1}, {0x108, 8, 0xcbcac9}, {0x110, 8, 0}, {0xff8, 8, 0},
	} {
		loads(t, r, c.at, c.n, c.want, true)
	}
	for _, n := range []int{0, 1, 2, 3, 4, 7, 8, 9, 3838, 3839, 3840, 3841, 5000} {
		row := make([]byte, n)
		for i := range row {
			row[i] = byte(i%251 + 1)
		}
		r := New(1, 0, 1, row...)
		byteAt := func(i int) uint64 {
			if i < n {
				return uint64(i%251 + 1)
			}
			return 0
		}
		for i := range 3840 {
			sum := uint64(0)
			for _, width := range widths {
				for k := width / 2; k < width; k++ {
					sum += byteAt(i+k) << (8 * k)
				}
				if i%width == 0 {
					if got, ok := r.Load(uint64(256+i), width); got != sum || !ok {
						t.Fatalf("%d bytes: Load(%#x, %d): %#x, %v, not %#x", n, 256+i, width, got, ok, sum)
					}
				}
			}
		}
	}
}

// P18.2, held against the model, which lays all that is read as bytes at places.
func TestLoadAndStoreByModel(t *testing.T) {
	chance := rand.New(rand.NewSource(1))
	m := made(t)
	states := []*Regs{full(), {}, New(1, ones, 16, 1, 2, 3), begun(t, indirect|eventIdx, 2)}
	for _, r := range states {
		for at := range uint64(4110) {
			for _, n := range widths {
				asModel(t, m, r, at, n, uint64(at)*0x0101010101010101)
			}
		}
		for at := uint64(0); at < 256; at += 4 {
			for w := range uint64(300) {
				asModel(t, m, r, at, 4, w)
			}
			for _, w := range []uint64{low, 1 << 31, 1 << 32, 1<<32 + 1, ones, 1 << 63} {
				asModel(t, m, r, at, 4, w)
			}
		}
	}
	for range 40000 {
		asModel(t, m, someRegs(chance), somePlace(chance), someWidth(chance), someWord(chance))
	}
}
