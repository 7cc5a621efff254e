package disk

import (
	"bytes"
	"math"
	"math/big"
	"math/rand"
	"testing"

	"vireo/api"
)

const (
	size = 512
	most = 65536
	ones = math.MaxUint64
)

func made(t *testing.T, count uint64, locked bool) *Disk {
	t.Helper()
	d, e := New(count, locked)
	if e != api.OK || d == nil {
		t.Fatalf("New(%d, %v): %d", count, locked, e)
	}
	return d
}

// pattern: bytes none of which is 0, each unlike those beside it and those of other sectors at its place.
func pattern(n int) []byte {
	out := make([]byte, n)
	for i := range out {
		out[i] = byte(1 + (i%size*7+i/size*31)%255)
	}
	return out
}

// filled: a disk with a pattern on it.
func filled(t *testing.T, count uint64, locked bool) *Disk {
	t.Helper()
	d := made(t, count, locked)
	d.Fill(pattern(int(count * size)))
	return d
}

// all: what stands on a disk, sector by sector.
func all(t *testing.T, d *Disk) []byte {
	t.Helper()
	var out []byte
	for n := range d.Count() {
		s, ok := d.Sector(n)
		if !ok || len(s) != size {
			t.Fatalf("Sector(%d) of %d: %d bytes, %v", n, d.Count(), len(s), ok)
		}
		out = append(out, s...)
	}
	return out
}

// holds: just these bytes stand on a disk.
func holds(t *testing.T, d *Disk, want []byte) {
	t.Helper()
	if got := all(t, d); !bytes.Equal(got, want) {
		i := 0
		for i < len(got) && i < len(want) && got[i] == want[i] {
			i++
		}
		t.Fatalf("%d bytes, not %d; the first that differs is %d", len(got), len(want), i)
	}
}

// reads: Read tells this.
func reads(t *testing.T, d *Disk, at, n uint64, want []byte, e api.Errno) {
	t.Helper()
	if got, is := d.Read(at, n); is != e || !bytes.Equal(got, want) {
		t.Fatalf("Read(%#x, %#x): %d bytes, %d, not %d bytes, %d", at, n, len(got), is, len(want), e)
	}
}

// writes: Write tells this.
func writes(t *testing.T, d *Disk, at uint64, data []byte, e api.Errno) {
	t.Helper()
	if is := d.Write(at, data); is != e {
		t.Fatalf("Write(%#x) of %d bytes: %d, not %d", at, len(data), is, e)
	}
}

func flushes(t *testing.T, d *Disk, e api.Errno) {
	t.Helper()
	if is := d.Flush(); is != e {
		t.Fatalf("Flush: %d, not %d", is, e)
	}
}

// counts: so many requests and flushes there were.
func counts(t *testing.T, d *Disk, requests, flushes uint64) {
	t.Helper()
	if d.Requests() != requests || d.Flushes() != flushes {
		t.Fatalf("%d requests, %d flushes, not %d, %d", d.Requests(), d.Flushes(), requests, flushes)
	}
}

// model is a disk as plainly as may be: a row of bytes, and the number of the request that fails, counted from the first of all.
type model struct {
	row      []byte
	locked   bool
	requests int64
	flushes  int64
	fails    *big.Int
}

func modelOf(count uint64, locked bool) *model {
	return &model{row: make([]byte, count*size), locked: locked}
}

func (m *model) fail(n uint64) {
	m.fails = nil
	if n > 0 {
		m.fails = new(big.Int).SetUint64(n)
		m.fails.Add(m.fails, big.NewInt(m.requests))
	}
}

func (m *model) request() bool {
	m.requests++
	return m.fails == nil || m.fails.Cmp(big.NewInt(m.requests)) != 0
}

// piece: n bytes from a sector on, with numbers as great as one likes.
func (m *model) piece(at, n uint64) ([]byte, api.Errno) {
	if n%size != 0 {
		return nil, api.ErrSize
	}
	from := new(big.Int).SetUint64(at)
	from.Mul(from, big.NewInt(size))
	to := new(big.Int).SetUint64(n)
	to.Add(to, from)
	if to.Cmp(big.NewInt(int64(len(m.row)))) > 0 {
		return nil, api.ErrSector
	}
	return m.row[from.Int64():to.Int64()], api.OK
}

func (m *model) read(at, n uint64) ([]byte, api.Errno) {
	if !m.request() {
		return nil, api.ErrFault
	}
	return m.piece(at, n)
}

func (m *model) write(at uint64, data []byte) api.Errno {
	if !m.request() {
		return api.ErrFault
	}
	if m.locked {
		return api.ErrLocked
	}
	p, e := m.piece(at, uint64(len(data)))
	copy(p, data)
	return e
}

func (m *model) flush() api.Errno {
	if !m.request() {
		return api.ErrFault
	}
	m.flushes++
	return api.OK
}

func (m *model) fill(data []byte) {
	n := copy(m.row, data)
	for ; n%size != 0; n++ {
		m.row[n] = 0
	}
}

func (m *model) copy() *model {
	out := *m
	out.row = bytes.Clone(m.row)
	return &out
}

// someLength: mostly whole sectors, about as many as there are; now and then anything.
func someLength(chance *rand.Rand, count uint64) uint64 {
	switch chance.Intn(8) {
	case 0:
		return uint64(chance.Intn(int(count+2) * size))
	case 1:
		return chance.Uint64() >> chance.Intn(64)
	case 2:
		return chance.Uint64() >> chance.Intn(64) / size * size
	}
	return uint64(chance.Intn(int(count)+2)) * size
}

// somePlace: mostly a sector, or right behind the last; now and then anything.
func somePlace(chance *rand.Rand, count uint64) uint64 {
	if chance.Intn(8) == 0 {
		return chance.Uint64() >> chance.Intn(64)
	}
	return uint64(chance.Intn(int(count) + 2))
}

// someBytes: about one in three is all 0 from a place on.
func someBytes(chance *rand.Rand, n uint64) []byte {
	out := make([]byte, n)
	end := len(out)
	if chance.Intn(3) == 0 {
		end = chance.Intn(end + 1)
	}
	chance.Read(out[:end])
	return out
}
