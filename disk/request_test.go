package disk

import (
	"bytes"
	"slices"
	"testing"

	"vireo/api"
)

// The chapter's examples.
func TestExamples(t *testing.T) {
	d := made(t, 2, false)
	reads(t, d, 1, 1024, nil, api.ErrSector)
	d.Fail(2)
	flushes(t, d, api.OK)
	flushes(t, d, api.ErrFault)
	flushes(t, d, api.OK)
}

// do: one request, of a kind by turns; those that are refused are requests, too.
func do(d *Disk, i uint64) api.Errno {
	switch i % 6 {
	case 0:
		return d.Flush()
	case 1:
		_, e := d.Read(0, size)
		return e
	case 2:
		return d.Write(1, pattern(size))
	case 3:
		_, e := d.Read(0, 1)
		return e
	case 4:
		return d.Write(ones, pattern(size))
	}
	_, e := d.Read(d.Count(), 0)
	return e
}

// failed: which of the next so many requests, from 1 on, fail.
func failed(t *testing.T, d *Disk, many, kind uint64) []uint64 {
	t.Helper()
	var out []uint64
	for i := range many {
		before := d.Requests()
		if e := do(d, i+kind); e == api.ErrFault {
			out = append(out, i+1)
		}
		if d.Requests() != before+1 {
			t.Fatalf("%d requests behind %d", d.Requests(), before)
		}
	}
	return out
}

func fails(t *testing.T, d *Disk, many, kind uint64, want ...uint64) {
	t.Helper()
	if got := failed(t, d, many, kind); !slices.Equal(got, want) {
		t.Fatalf("these fail: %d, not %d", got, want)
	}
}

// P13.1: just the n-th request from now on fails, whatever kind it is, and none behind it.
func TestFail(t *testing.T) {
	for kind := range uint64(6) {
		for _, locked := range []bool{false, true} {
			d := made(t, 3, locked)
			fails(t, d, 20, kind)
			for n := uint64(1); n <= 15; n++ {
				d.Fail(n)
				fails(t, d, 30, kind, n)
			}
			for _, n := range []uint64{0, 31, 1 << 32, 1<<32 + 1, 1 << 63, ones - 1, ones} {
				d.Fail(n)
				fails(t, d, 30, kind)
			}
		}
	}
}

// P13.1: what was told ahead doesn't count.
func TestFailToldAnew(t *testing.T) {
	d := made(t, 3, false)
	for _, c := range []struct{ first, between, then uint64 }{
		{1, 0, 0}, {1, 0, 1}, {1, 0, 2}, {2, 0, 1}, {2, 1, 0}, {2, 1, 1}, {2, 1, 2}, {5, 0, 3}, {5, 2, 2}, {5, 2, 3}, {5, 2, 4}, {5, 4, 7},
		{ones, 0, 1}, {ones, 3, 2}, {3, 2, ones}, {1, 0, ones}, {0, 2, 3}, {0, 0, 1}, {9, 8, 0},
	} {
		d.Fail(c.first)
		fails(t, d, c.between, 0)
		d.Fail(c.then)
		if c.then == 0 || c.then > 20 {
			fails(t, d, 20, 0)
		} else {
			fails(t, d, 20, 0, c.then)
		}
	}
	// Behind one that failed another may be told.
	for range 3 {
		d.Fail(1)
		flushes(t, d, api.ErrFault)
	}
	flushes(t, d, api.OK)
}

// P13.1, P13.3: what isn't a request doesn't bring the one that fails nearer, and doesn't fail.
func TestOthersAreNoRequests(t *testing.T) {
	d, other := filled(t, 3, false), filled(t, 3, false)
	d.Fail(2)
	for range 5 {
		d.Fill(pattern(3 * size))
		d.Fill(nil)
		d.Sector(0)
		d.Sector(3)
		d.Copy().Flush()
		Same(d, other)
		Same(other, d)
		d.Count()
		d.Locked()
		d.Requests()
		d.Flushes()
		holds(t, d, pattern(3*size))
		counts(t, d, 0, 0)
	}
	fails(t, d, 6, 0, 2)
	counts(t, d, 6, 1)
}

// P13.2: each is one more request, whether it fails, is refused or not.
func TestRequests(t *testing.T) {
	for _, locked := range []bool{false, true} {
		d := filled(t, 3, locked)
		n := uint64(0)
		one := func() {
			t.Helper()
			if n++; d.Requests() != n {
				t.Fatalf("%d requests, not %d", d.Requests(), n)
			}
		}
		for _, at := range []uint64{0, 2, 3, 4, ones} {
			for _, length := range []int{0, 1, 511, 512, 1024, 2048} {
				for _, fail := range []uint64{0, 1} {
					d.Fail(fail)
					d.Read(at, uint64(length))
					one()
					d.Fail(fail)
					d.Write(at, make([]byte, length))
					one()
				}
			}
		}
		counts(t, d, n, 0)
		d.Flush()
		one()
		d.Fail(1)
		d.Flush()
		one()
		counts(t, d, n, 1)
	}
}

// P13.2: ErrFault ahead of ErrLocked, that ahead of ErrSize, that ahead of ErrSector; whatever the answer, a refused one changes no sector.
func TestOrderOfErrors(t *testing.T) {
	row := bytes.Repeat([]byte{0xee}, 5*size)
	for _, at := range []uint64{0, 1, 2, 3, 4, 1 << 55, ones} {
		for _, length := range []uint64{0, 1, 511, 512, 513, 1024, 1025, 1536, 1537, 2048} {
			wrong := api.OK
			if at > 3 || at*size+length > 3*size {
				wrong = api.ErrSector
			}
			if length%size != 0 {
				wrong = api.ErrSize
			}
			for _, locked := range []bool{false, true} {
				for _, fail := range []uint64{0, 1, 2} {
					refusal(t, locked, fail, at, row[:length], wrong)
				}
			}
		}
	}
}

// refusal: what Read and Write of a disk of three sectors answer, if this is wrong beside what else may be.
func refusal(t *testing.T, locked bool, fail, at uint64, data []byte, wrong api.Errno) {
	t.Helper()
	read, write := wrong, wrong
	if locked {
		write = api.ErrLocked
	}
	if fail == 1 {
		read, write = api.ErrFault, api.ErrFault
	}
	whole, want := pattern(3*size), []byte(nil)
	if read == api.OK {
		want = whole[at*size : at*size+uint64(len(data))]
	}
	d := filled(t, 3, locked)
	d.Fail(fail)
	reads(t, d, at, uint64(len(data)), want, read)
	holds(t, d, whole)
	d.Fail(fail)
	writes(t, d, at, data, write)
	if write == api.OK {
		copy(whole[at*size:], data)
	}
	holds(t, d, whole)
}

// P13.2: Flush of a locked disk, too, is one more of Flushes; one that fails isn't.
func TestFlush(t *testing.T) {
	for _, locked := range []bool{false, true} {
		d := filled(t, 2, locked)
		for n := range uint64(5) {
			counts(t, d, 3*n, 2*n)
			flushes(t, d, api.OK)
			counts(t, d, 3*n+1, 2*n+1)
			d.Fail(1)
			flushes(t, d, api.ErrFault)
			counts(t, d, 3*n+2, 2*n+1)
			d.Fail(2)
			flushes(t, d, api.OK)
			d.Fail(0)
			holds(t, d, pattern(2*size))
		}
		d.Read(0, size)
		d.Write(0, pattern(size))
		counts(t, d, 17, 10)
	}
}

// P13.2: just the bytes from the sector at on, of none up to all.
func TestRead(t *testing.T) {
	const count = 5
	whole := pattern(count * size)
	for _, locked := range []bool{false, true} {
		d := filled(t, count, locked)
		for at := uint64(0); at <= count; at++ {
			for n := uint64(0); n <= count+1; n++ {
				if at+n <= count {
					reads(t, d, at, n*size, whole[at*size:(at+n)*size], api.OK)
				} else {
					reads(t, d, at, n*size, nil, api.ErrSector)
				}
			}
		}
		holds(t, d, whole)
	}
}

// great: numbers that are beyond every disk, some of which would seem small if they went round.
var great = []uint64{1 << 16, 1 << 17, 1<<31 - 1, 1 << 31, 1 << 32, 1<<32 + 1, 1<<54 - 1, 1<<55 - 1, 1 << 55, 1<<55 + 1, 1<<55 + 2, 1<<63 - 1, 1 << 63, 1<<63 + 1, ones - 511, ones - 4, ones - 1, ones}

// P13.2: there are no sectors at such a place, not even for none.
func TestGreatPlaces(t *testing.T) {
	for _, count := range []uint64{1, 3, most} {
		d := filled(t, count, false)
		for _, at := range append([]uint64{count + 1, count + 2, 2 * count, count * size}, great...) {
			if at <= count {
				continue
			}
			for _, n := range []int{0, 1, 2, 3} {
				reads(t, d, at, uint64(n*size), nil, api.ErrSector)
				writes(t, d, at, make([]byte, n*size), api.ErrSector)
				reads(t, d, at, uint64(n*size+1), nil, api.ErrSize)
				writes(t, d, at, make([]byte, n*size+1), api.ErrSize)
			}
		}
		holds(t, d, pattern(int(count*size)))
	}
}

// P13.2: so many bytes there are nowhere, wherever one begins; nothing is laid out for them.
func TestGreatLengths(t *testing.T) {
	for _, count := range []uint64{1, 3, most} {
		d := filled(t, count, false)
		for _, at := range append([]uint64{0, 1, 2, count - 1, count, count + 1}, great...) {
			for _, n := range []uint64{most + 1, 1 << 22, 1 << 23, 1<<23 + 1, 1 << 31, 1 << 40, 1<<54 - 1, 1 << 54, 1<<54 + 1, 1<<55 - 2, 1<<55 - 1} {
				reads(t, d, at, n*size, nil, api.ErrSector)
				for _, more := range []uint64{1, 2, 255, 256, 511} {
					reads(t, d, at, n*size+more, nil, api.ErrSize)
				}
			}
			reads(t, d, at, ones, nil, api.ErrSize)
			reads(t, d, at, ones-511, nil, api.ErrSector)
			reads(t, d, at, ones-512, nil, api.ErrSize)
			if at > 0 { // the end would go round to the disk's beginning
				reads(t, d, at, -at*size, nil, api.ErrSector)
			}
		}
	}
}

// P13.2, P13.5: the sectors are those of data, and no other one changes.
func TestWrite(t *testing.T) {
	const count = 5
	for at := uint64(0); at <= count+1; at++ {
		for n := uint64(0); n <= count+1; n++ {
			for _, data := range [][]byte{bytes.Repeat([]byte{0xfe, 0xff}, int(n*size/2)), make([]byte, n*size)} {
				d, want := filled(t, count, false), pattern(count*size)
				if at+n > count {
					writes(t, d, at, data, api.ErrSector)
				} else {
					copy(want[at*size:], data)
					writes(t, d, at, data, api.OK)
					reads(t, d, at, n*size, data, api.OK)
				}
				holds(t, d, want)
				reads(t, d, 0, count*size, want, api.OK)
			}
		}
	}
	d := filled(t, 2, false)
	writes(t, d, 2, nil, api.OK)
	writes(t, d, 3, nil, api.ErrSector)
	holds(t, d, pattern(2*size))
}

// P13.2: lengths that aren't whole sectors, even though there is room for them.
func TestCrookedLengths(t *testing.T) {
	d := filled(t, 8, false)
	for n := range 1100 {
		if n%size == 0 {
			continue
		}
		for _, at := range []uint64{0, 3, 7, 8, 9} {
			reads(t, d, at, uint64(n), nil, api.ErrSize)
			writes(t, d, at, make([]byte, n), api.ErrSize)
		}
	}
	holds(t, d, pattern(8*size))
}

// P13.2: a locked disk is written by no request, not even of no bytes; it is read.
func TestLocked(t *testing.T) {
	d := filled(t, 3, true)
	for _, at := range []uint64{0, 1, 2, 3, 4, ones} {
		for _, n := range []int{0, 1, 511, 512, 513, 1024, 1536, 2048} {
			writes(t, d, at, make([]byte, n), api.ErrLocked)
		}
		writes(t, d, at, nil, api.ErrLocked)
	}
	counts(t, d, 54, 0)
	reads(t, d, 0, 3*size, pattern(3*size), api.OK)
}

// P13.4, P13.5: the greatest disk, whole, and at its last sector.
func TestGreatestDisk(t *testing.T) {
	d, whole := made(t, most, false), pattern(most*size)
	writes(t, d, 1, whole, api.ErrSector)
	writes(t, d, 0, append(whole, whole[:size]...), api.ErrSector)
	holds(t, d, make([]byte, most*size))
	writes(t, d, 0, whole, api.OK)
	reads(t, d, 0, most*size, whole, api.OK)
	reads(t, d, 0, (most+1)*size, nil, api.ErrSector)
	reads(t, d, 1, most*size, nil, api.ErrSector)
	reads(t, d, most-1, size, whole[(most-1)*size:], api.OK)
	writes(t, d, most-1, bytes.Repeat([]byte{3}, size), api.OK)
	copy(whole[(most-1)*size:], bytes.Repeat([]byte{3}, size))
	reads(t, d, most, 0, nil, api.OK)
	writes(t, d, most, nil, api.OK)
	writes(t, d, most, whole[:size], api.ErrSector)
	writes(t, d, most-1, whole[:2*size], api.ErrSector)
	holds(t, d, whole)
}

// P13.5: each sector is one of its own.
func TestEverySectorIsItsOwn(t *testing.T) {
	const count = 300
	d, row := made(t, count, false), make([]byte, count*size)
	for i := range uint64(count) {
		n := i * 7 % count
		data := bytes.Repeat([]byte{byte(n), byte(n>>8) + 1}, size/2)
		copy(row[n*size:], data)
		writes(t, d, n, data, api.OK)
		reads(t, d, 0, count*size, row, api.OK)
	}
}
