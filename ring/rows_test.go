package ring

import (
	"bytes"
	"math/rand"
	"testing"

	"vireo/api"
	"vireo/ram"
)

// numbers: below Size, Size itself, beside its multiples, and up to 65535.
func numbers(size int) []uint16 {
	out := []uint16{32767, 32768, 65534, 65535}
	for _, n := range []int{0, size, 2 * size, 3 * size, 65536 - size, 40000} {
		for off := -2; off <= 2; off++ {
			out = append(out, uint16(n+off))
		}
	}
	return out
}

// sum: the word of 2 bytes of a memory's row, at an address.
func sum(row []byte, at uint64) uint16 {
	return uint16(row[at-base]) + 256*uint16(row[at-base+1])
}

// P15.3: a queue whose Avail is laid by hand, each byte another one.
func TestAvailByHand(t *testing.T) {
	m := made(t, page)
	l := api.Layout{Size: 4, Desc: base, Avail: base + 0x40, Used: base + 0x50}
	m.Write(base+0x3e, []byte{90, 91, 1, 2, 3, 4, 5, 6, 7, 8, 9, 10, 11, 12, 13, 14, 92, 93})
	if got := Flags(m, l); got != 0x0201 {
		t.Errorf("Flags: %#x", got)
	}
	if got := Offered(m, l); got != 0x0403 {
		t.Errorf("Offered: %#x", got)
	}
	for n, want := range map[uint16]uint16{0: 0x0605, 1: 0x0807, 2: 0x0a09, 3: 0x0c0b, 4: 0x0605, 5: 0x0807, 7: 0x0c0b, 65532: 0x0605, 65535: 0x0c0b} {
		if got := Head(m, l, n); got != want {
			t.Errorf("Head(%d): %#x, not %#x", n, got, want)
		}
	}
	if got := Wanted(m, l); got != 0x0e0d {
		t.Errorf("Wanted: %#x", got)
	}
}

// P15.3: which word of Avail each tells, of queues of every size at many places; each in one piece, and nothing is written.
func TestAvail(t *testing.T) {
	m, row := filled(t, small), pattern(small)
	for _, l := range places() {
		checks(t, m, l, api.OK)
		for _, c := range []struct {
			name string
			at   uint64
			ask  func(*ram.RAM, api.Layout) uint16
		}{
			{"Flags", l.Avail, Flags},
			{"Offered", l.Avail + 2, Offered},
			{"Wanted", l.Avail + 4 + 2*uint64(l.Size), Wanted},
		} {
			watched(t, m, one(c.at, 2), nil, func() {
				if got := c.ask(m, l); got != sum(row, c.at) {
					t.Errorf("%s of %+v: %#x, not %#x", c.name, l, got, sum(row, c.at))
				}
			})
		}
		for _, n := range numbers(l.Size) {
			at := l.Avail + 4 + 2*(uint64(n)%uint64(l.Size))
			watched(t, m, one(at, 2), nil, func() {
				if got := Head(m, l, n); got != sum(row, at) {
					t.Errorf("Head(%d) of %+v: %#x, not %#x", n, l, got, sum(row, at))
				}
			})
		}
	}
	holds(t, m, row)
}

// P15.3: every number that a head can have.
func TestHeadOfAllNumbers(t *testing.T) {
	m, row := filled(t, small), pattern(small)
	for _, size := range sizes {
		l := layout(size, base+16)
		slot := 0
		for n := range 65536 {
			want := sum(row, l.Avail+4+2*uint64(slot))
			if got := Head(m, l, uint16(n)); got != want {
				t.Fatalf("Head(%d) of %d: %#x, not %#x", n, size, got, want)
			}
			if slot++; slot == size {
				slot = 0
			}
		}
	}
}

// P15.3: what is told is what stands in memory now: noughts, all ones, and what is laid later.
func TestAvailOfNow(t *testing.T) {
	m := made(t, small)
	l := ending(256, small)
	for _, b := range []byte{0, 0xff, 0x80, 0x7f} {
		m.Write(base, bytes.Repeat([]byte{b}, small))
		want := uint16(b)*256 + uint16(b)
		if Flags(m, l) != want || Offered(m, l) != want || Wanted(m, l) != want || Head(m, l, 255) != want || Head(m, l, 256) != want {
			t.Errorf("of bytes %#x: %#x, %#x, %#x", b, Flags(m, l), Offered(m, l), Wanted(m, l))
		}
	}
}

// laid: a row with these bytes at an address.
func laid(row []byte, at uint64, list ...byte) []byte {
	out := bytes.Clone(row)
	copy(out[at-base:], list)
	return out
}

// P15.3: Put, Publish and Want, their bytes written out by hand.
func TestUsedByHand(t *testing.T) {
	l := api.Layout{Size: 4, Desc: base, Avail: base + 0x40, Used: base + 0x50}
	for n, at := range map[uint16]uint64{0: 0x54, 1: 0x5c, 2: 0x64, 3: 0x6c, 4: 0x54, 5: 0x5c, 65535: 0x6c} {
		m := filled(t, page)
		if !Put(m, l, n, 0x0201, 0x06050403) {
			t.Errorf("Put(%d): false", n)
		}
		holds(t, m, laid(pattern(page), base+at, 1, 2, 0, 0, 3, 4, 5, 6))
	}
	m := filled(t, page)
	if !Publish(m, l, 0x1234) {
		t.Errorf("Publish: false")
	}
	want := laid(pattern(page), base+0x52, 0x34, 0x12)
	holds(t, m, want)
	if !Want(m, l, 0xabcd) {
		t.Errorf("Want: false")
	}
	want = laid(want, base+0x74, 0xcd, 0xab)
	holds(t, m, want)
	if !Publish(m, l, 65535) || !Want(m, l, 0) || !Put(m, l, 2, 65535, 0xffffffff) || !Put(m, l, 3, 0, 0) {
		t.Errorf("false")
	}
	want = laid(want, base+0x52, 255, 255)
	want = laid(want, base+0x74, 0, 0)
	want = laid(want, base+0x64, 255, 255, 0, 0, 255, 255, 255, 255)
	want = laid(want, base+0x6c, 0, 0, 0, 0, 0, 0, 0, 0)
	holds(t, m, want)
}

// puts: something writes just these bytes, at an address within Used, in one piece; it answers true, and reads nothing.
func puts(t *testing.T, l api.Layout, at uint64, list []byte, do func(*ram.RAM) bool) {
	t.Helper()
	if at < l.Used || at+uint64(len(list)) > l.Used+6+8*uint64(l.Size) {
		t.Fatalf("%#x isn't in Used of %+v", at, l)
	}
	m := filled(t, small)
	watched(t, m, nil, one(at, uint64(len(list))), func() {
		if !do(m) {
			t.Errorf("%+v: false", l)
		}
	})
	holds(t, m, laid(pattern(small), at, list...))
}

// P15.3, P15.5: where each writes, of queues of every size at many places; all other bytes are as they were.
func TestUsed(t *testing.T) {
	for _, l := range places() {
		for i, n := range numbers(l.Size) {
			at := l.Used + 4 + 8*(uint64(n)%uint64(l.Size))
			puts(t, l, at, []byte{byte(i), 200, 0, 0, 9, 8, 7, byte(i)}, func(m *ram.RAM) bool {
				return Put(m, l, n, uint16(200*256+i), uint32(i)<<24+0x070809)
			})
			pair := []byte{byte(n % 256), byte(n / 256)}
			puts(t, l, l.Used+2, pair, func(m *ram.RAM) bool { return Publish(m, l, n) })
			puts(t, l, l.Used+4+8*uint64(l.Size), pair, func(m *ram.RAM) bool { return Want(m, l, n) })
		}
	}
}

// P15.3, P15.5: walks of all three, held against a row of bytes.
func TestUsedAgainstRow(t *testing.T) {
	chance := rand.New(rand.NewSource(4))
	for _, l := range places() {
		m, row := filled(t, small), pattern(small)
		for range 300 {
			n, id, count := uint16(chance.Uint32()), uint16(chance.Uint32()), chance.Uint32()
			ok, at := false, uint64(0)
			var list []byte
			switch chance.Intn(4) {
			case 0:
				ok, at = Publish(m, l, n), l.Used+2
				list = []byte{byte(n), byte(n >> 8)}
			case 1:
				ok, at = Want(m, l, n), l.Used+4+8*uint64(l.Size)
				list = []byte{byte(n), byte(n >> 8)}
			default:
				ok, at = Put(m, l, n, id, count), l.Used+4+8*(uint64(n)%uint64(l.Size))
				list = []byte{byte(id), byte(id >> 8), 0, 0, byte(count), byte(count >> 8), byte(count >> 16), byte(count >> 24)}
			}
			if !ok {
				t.Fatalf("%+v: false", l)
			}
			row = laid(row, at, list...)
		}
		holds(t, m, row)
	}
}

// P15.5: whatever the layout, nothing but Used is written: if it may not be, none is.
func TestUsedAlone(t *testing.T) {
	chance := rand.New(rand.NewSource(5))
	for range 3000 {
		l := someLayout(chance, small)
		m := filled(t, small)
		before := m.Copy()
		n := uint16(chance.Uint32())
		ok := []bool{Put(m, l, n, n, chance.Uint32()), Publish(m, l, n), Want(m, l, n)}
		may := checked(small, l) == api.OK
		for _, is := range ok {
			if is != may {
				t.Fatalf("%+v: %v", l, ok)
			}
		}
		for _, s := range ram.Differ(m, before, 4096) {
			if !may || s.At < l.Used || s.At+s.Len > l.Used+6+8*uint64(l.Size) {
				t.Fatalf("%+v: %+v is another one", l, s)
			}
		}
	}
}
