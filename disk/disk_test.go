package disk

import (
	"bytes"
	"testing"

	"vireo/api"
)

// P13.1: from 1 to MaxSectors, locked and not; beside ErrSectors there is none.
func TestNew(t *testing.T) {
	for _, c := range []struct {
		count uint64
		want  api.Errno
	}{
		{0, api.ErrSectors},
		{1, api.OK},
		{2, api.OK},
		{3, api.OK},
		{512, api.OK},
		{most - 1, api.OK},
		{most, api.OK},
		{most + 1, api.ErrSectors},
		{1 << 17, api.ErrSectors},
		{1 << 31, api.ErrSectors},
		{1 << 32, api.ErrSectors},
		{1<<32 + 1, api.ErrSectors}, // 1, if the high bits were lost
		{1<<55 + 1, api.ErrSectors}, // one sector's bytes, if their number went round
		{1 << 63, api.ErrSectors},
		{1<<63 + 1, api.ErrSectors},
		{ones - 1, api.ErrSectors},
		{ones, api.ErrSectors},
	} {
		for _, locked := range []bool{false, true} {
			d, e := New(c.count, locked)
			if e != c.want || (d != nil) != (c.want == api.OK) {
				t.Errorf("New(%d, %v): %v, %d", c.count, locked, d, e)
			}
			if d != nil && (d.Count() != c.count || d.Locked() != locked) {
				t.Errorf("New(%d, %v): Count %d, Locked %v", c.count, locked, d.Count(), d.Locked())
			}
		}
	}
}

// P13.1: all sectors are 0, there were no requests and no flushes, and none is to fail.
func TestNewIsBlank(t *testing.T) {
	for _, count := range []uint64{1, 2, 7, most} {
		for _, locked := range []bool{false, true} {
			d := made(t, count, locked)
			counts(t, d, 0, 0)
			holds(t, d, make([]byte, count*size))
			counts(t, d, 0, 0)
			reads(t, d, 0, count*size, make([]byte, count*size), api.OK)
			flushes(t, d, api.OK)
			counts(t, d, 2, 1)
		}
	}
}

func TestTwoDisksAreApart(t *testing.T) {
	a, b := made(t, 2, false), made(t, 2, false)
	a.Fill(pattern(2 * size))
	a.Fail(1)
	flushes(t, a, api.ErrFault)
	flushes(t, a, api.OK)
	a.Fail(1)
	holds(t, b, make([]byte, 2*size))
	counts(t, b, 0, 0)
	flushes(t, b, api.OK)
}

// P13.1: Count and Locked stay, whatever is done.
func TestCountAndLockedStay(t *testing.T) {
	for _, locked := range []bool{false, true} {
		d := filled(t, 3, locked)
		d.Fail(2)
		for range 3 {
			d.Read(0, size)
			d.Write(0, pattern(size))
			d.Write(3, pattern(size))
			d.Flush()
			d.Fill(pattern(9 * size))
			if c := d.Copy(); d.Count() != 3 || d.Locked() != locked || c.Count() != 3 || c.Locked() != locked {
				t.Fatalf("Count %d, Locked %v", d.Count(), d.Locked())
			}
		}
	}
}

// P13.3: as many bytes as there is room for; the last sector that gets any holds 0 behind them, those behind it are left.
func TestFill(t *testing.T) {
	const count = 4
	for _, n := range []int{0, 1, 2, 255, 511, 512, 513, 1023, 1024, 1025, 3*size - 1, 3 * size, 3*size + 1, 4*size - 1, 4 * size, 4*size + 1, 5 * size, 6*size + 7, 100 * size} {
		for _, locked := range []bool{false, true} {
			d := filled(t, count, locked)
			data := bytes.Repeat([]byte{0xfe, 0xff}, n)[:n]
			want := pattern(count * size)
			for i := range want {
				if i < n {
					want[i] = data[i]
				} else if i/size == (n-1)/size && n > 0 {
					want[i] = 0
				}
			}
			d.Fill(data)
			holds(t, d, want)
			counts(t, d, 0, 0)
			reads(t, d, 0, count*size, want, api.OK)
		}
	}
}

func TestFillWithNothing(t *testing.T) {
	for _, d := range []*Disk{filled(t, 2, false), filled(t, 2, true)} {
		d.Fill(nil)
		d.Fill([]byte{})
		holds(t, d, pattern(2*size))
	}
}

// P13.3: bytes that are 0 are bytes, too.
func TestFillWithNoughts(t *testing.T) {
	d := filled(t, 4, false)
	d.Fill(make([]byte, size+1))
	want := pattern(4 * size)
	clear(want[:2*size])
	holds(t, d, want)
}

func TestFillOfTheGreatest(t *testing.T) {
	d := made(t, most, true)
	data := pattern(most*size + 9)
	d.Fill(data)
	holds(t, d, data[:most*size])
	d.Fill([]byte{9})
	clear(data[:size])
	data[0] = 9
	holds(t, d, data[:most*size])
}

// P13.3: Sector tells what one holds; there is none from Count on. It asks nothing of the disk: a disk that would fail tells it.
func TestSector(t *testing.T) {
	for _, count := range []uint64{1, 2, 5, most} {
		for _, locked := range []bool{false, true} {
			d := filled(t, count, locked)
			d.Fail(1)
			whole := pattern(int(count * size))
			for _, n := range []uint64{0, count / 2, count - 1} {
				if got, ok := d.Sector(n); !ok || !bytes.Equal(got, whole[n*size:(n+1)*size]) {
					t.Errorf("Sector(%d) of %d: %d bytes, %v", n, count, len(got), ok)
				}
			}
			for _, n := range []uint64{count, count + 1, count * size, most, most + 1, 1 << 32, 1<<32 + 1, 1 << 55, 1<<55 + 1, 1 << 63, ones - 1, ones} {
				if got, ok := d.Sector(n); n >= count && (ok || len(got) != 0) {
					t.Errorf("Sector(%d) of %d: %d bytes, %v", n, count, len(got), ok)
				}
			}
			counts(t, d, 0, 0)
			flushes(t, d, api.ErrFault)
		}
	}
}

// alike: two disks answer the same, whatever is asked; each is asked as often as the other.
func alike(t *testing.T, a, b *Disk) {
	t.Helper()
	if a.Count() != b.Count() || a.Locked() != b.Locked() || !Same(a, b) || !Same(b, a) {
		t.Fatalf("Count %d and %d, Locked %v and %v, Same %v", a.Count(), b.Count(), a.Locked(), b.Locked(), Same(a, b))
	}
	for range 4 {
		counts(t, b, a.Requests(), a.Flushes())
		if e, f := a.Flush(), b.Flush(); e != f {
			t.Fatalf("Flush: %d and %d", e, f)
		}
	}
	holds(t, b, all(t, a))
}

// P13.3: a copy is alike in everything: sectors, whether it is locked, requests, flushes, what is to fail.
func TestCopyIsAlike(t *testing.T) {
	for _, locked := range []bool{false, true} {
		for _, fail := range []uint64{0, 1, 2, 3, 4, ones} {
			d := filled(t, 3, locked)
			flushes(t, d, api.OK)
			d.Read(0, 1)
			d.Fail(fail)
			c := d.Copy()
			if c == d || c == nil {
				t.Fatalf("Copy answers no disk of its own")
			}
			counts(t, c, 2, 1)
			counts(t, d, 2, 1)
			alike(t, d, c)
			done := uint64(5) // of the four behind it one fails, or none
			if 1 <= fail && fail <= 4 {
				done = 4
			}
			counts(t, c, 6, done)
		}
	}
	alike(t, made(t, 2, false), made(t, 2, false).Copy())
}

// P13.3: a copy is of its own: each goes its own way.
func TestCopyIsOfItsOwn(t *testing.T) {
	for _, swap := range []bool{false, true} {
		d := filled(t, 3, false)
		c := d.Copy()
		if swap {
			d, c = c, d
		}
		writes(t, c, 1, make([]byte, size), api.OK)
		writes(t, c, 0, bytes.Repeat([]byte{9}, size), api.OK)
		flushes(t, c, api.OK)
		c.Fail(1)
		holds(t, d, pattern(3*size))
		counts(t, d, 0, 0)
		flushes(t, d, api.OK)
		flushes(t, c, api.ErrFault)
		counts(t, d, 1, 1)
		counts(t, c, 4, 1)
		d.Fail(1)
		d.Fill([]byte{7})
		flushes(t, c, api.OK)
		flushes(t, d, api.ErrFault)
		want := append(bytes.Repeat([]byte{9}, size), make([]byte, size)...)
		holds(t, c, append(want, pattern(3 * size)[2*size:]...))
	}
	blank := made(t, 2, false)
	c := blank.Copy()
	c.Fill([]byte{1})
	holds(t, blank, make([]byte, 2*size))
	blank.Fill([]byte{2, 3})
	holds(t, c, append([]byte{1}, make([]byte, 2*size-1)...))
}

func TestCopyOfTheGreatest(t *testing.T) {
	d := filled(t, most, false)
	c := d.Copy()
	d.Fill(make([]byte, most*size))
	holds(t, c, pattern(most*size))
}

func same(t *testing.T, a, b *Disk, want bool) {
	t.Helper()
	if Same(a, b) != want || Same(b, a) != want || !Same(a, a) || !Same(b, b) {
		t.Fatalf("Same: %v, %v, not %v", Same(a, b), Same(b, a), want)
	}
}

// P13.3: as many sectors, and the same bytes; no other thing counts.
func TestSame(t *testing.T) {
	for _, count := range []uint64{1, 2, 5} {
		same(t, made(t, count, false), made(t, count, true), true)
		same(t, filled(t, count, false), filled(t, count, true), true)
		same(t, filled(t, count, false), made(t, count, false), false)
		same(t, made(t, count, false), made(t, count+1, false), false)
		same(t, filled(t, count, false), filled(t, count+1, false), false)
		busy := filled(t, count, false)
		busy.Fail(3)
		flushes(t, busy, api.OK)
		busy.Read(count, size)
		same(t, busy, filled(t, count, true), true)
		counts(t, busy, 2, 1)
		flushes(t, busy, api.ErrFault)
	}
	same(t, made(t, most, false), made(t, most-1, false), false)
	same(t, filled(t, most, false), filled(t, most, false), true)
}

// P13.3: the sectors that both have are the same, but one has more, which are 0.
func TestSameOfUnlikeCounts(t *testing.T) {
	a, b := made(t, 2, false), made(t, 3, false)
	a.Fill(pattern(2 * size))
	b.Fill(pattern(2 * size))
	same(t, a, b, false)
}

// P13.3: one byte that differs is enough, wherever it is; that bytes were written and are 0 again is nothing to it.
func TestSameByOneByte(t *testing.T) {
	blank, full := made(t, 3, false), filled(t, 3, false)
	for _, i := range []int{0, 1, 255, 511, 512, 513, 1023, 1024, 3*size - 2, 3*size - 1} {
		row := make([]byte, 3*size)
		row[i] = 1
		a := made(t, 3, false)
		a.Fill(row)
		same(t, a, blank, false)
		row[i] = 0
		writes(t, a, 0, row, api.OK)
		same(t, a, blank, true)
		row = pattern(3 * size)
		row[i]++
		a.Fill(row)
		same(t, a, full, false)
		row[i]--
		a.Fill(row)
		same(t, a, full, true)
	}
	// As many sectors that aren't 0, but others.
	a, b := made(t, 3, false), made(t, 3, false)
	writes(t, a, 0, pattern(size), api.OK)
	writes(t, b, 1, pattern(size), api.OK)
	same(t, a, b, false)
}
