package disk

import (
	"bytes"
	"math/rand"
	"testing"

	"vireo/api"
)

// P1: every call ends and none panics, whatever it is given; rule 2: beside an error, or false, there is nothing.
func TestAnyArgument(t *testing.T) {
	chance := rand.New(rand.NewSource(1))
	word := func() uint64 { return chance.Uint64() >> chance.Intn(64) }
	for range 20000 {
		if d, e := New(word(), chance.Intn(2) == 0); (d == nil) != (e == api.ErrSectors) || (d != nil) != (e == api.OK) {
			t.Fatalf("New: %v, %d", d, e)
		}
	}
	d := filled(t, 3, false)
	for range 20000 {
		d.Fail(word())
		if got, e := d.Read(word(), word()); e != api.OK && len(got) != 0 {
			t.Fatalf("Read: %d bytes beside %d", len(got), e)
		}
		d.Write(word(), make([]byte, chance.Intn(5*size)))
		d.Flush()
		d.Fill(make([]byte, chance.Intn(5*size)))
		if got, ok := d.Sector(word()); !ok && len(got) != 0 {
			t.Fatalf("Sector: %d bytes beside false", len(got))
		}
	}
}

// P1: what New answers beside an error is none, and does nothing.
func TestNone(t *testing.T) {
	none, _ := New(0, true)
	some := made(t, 1, false)
	none.Fail(1)
	none.Fail(0)
	none.Fill(pattern(size))
	none.Fill(nil)
	for _, at := range []uint64{0, 1, ones} {
		reads(t, none, at, 0, nil, api.ErrFault)
		reads(t, none, at, 1, nil, api.ErrFault)
		reads(t, none, at, size, nil, api.ErrFault)
		writes(t, none, at, nil, api.ErrFault)
		writes(t, none, at, pattern(size), api.ErrFault)
		if got, ok := none.Sector(at); ok || len(got) != 0 {
			t.Errorf("none has a sector")
		}
	}
	flushes(t, none, api.ErrFault)
	counts(t, none, 0, 0)
	if none.Count() != 0 || none.Locked() || none.Copy() != nil {
		t.Errorf("none has something")
	}
	same(t, none, some, false)
	same(t, none, none, true)
}

// spoil: all bytes of a list and of its spare room are others now.
func spoil(list []byte) {
	list = list[:cap(list)]
	for i := range list {
		list[i] ^= 0xff
	}
}

// P2, rule 4: what Read and Sector told is the asker's.
func TestBytesThatAreTold(t *testing.T) {
	for _, d := range []*Disk{filled(t, 3, false), made(t, 3, false), made(t, 3, false)} {
		d.Fill(pattern(2 * size)) // so that of the last two disks a sector was never written
		want := all(t, d)
		first, _ := d.Read(0, 3*size)
		next, _ := d.Read(0, 3*size)
		one, _ := d.Sector(2)
		other, _ := d.Sector(2)
		spoil(first)
		spoil(one)
		none, _ := d.Read(1, 0)
		spoil(none)
		if !bytes.Equal(next, want) || !bytes.Equal(other, want[2*size:]) {
			t.Fatalf("two answers share memory")
		}
		holds(t, d, want)
		reads(t, d, 0, 3*size, want, api.OK)
		writes(t, d, 0, bytes.Repeat([]byte{7}, 3*size), api.OK)
		d.Fill(bytes.Repeat([]byte{8}, 3*size))
		if !bytes.Equal(next, want) || !bytes.Equal(other, want[2*size:]) {
			t.Fatalf("what is written is seen in bytes that were told")
		}
	}
}

// P2, rule 4: what Write and Fill were given stays as it is, with its spare room, and isn't kept.
func TestBytesThatAreGiven(t *testing.T) {
	for _, put := range []func(d *Disk, data []byte){
		func(d *Disk, data []byte) { writes(t, d, 0, data, api.OK) },
		func(d *Disk, data []byte) { d.Fill(data) },
		func(d *Disk, data []byte) { d.Fill(data[:2*size-9]); d.Write(1, data[size:]) },
	} {
		d, row := made(t, 3, false), pattern(4*size)
		put(d, row[:2*size])
		writes(t, d, 2, row[:2*size], api.ErrSector)
		writes(t, d, 0, row[:9], api.ErrSize)
		if !bytes.Equal(row, pattern(4*size)) {
			t.Fatalf("the bytes that were given are changed")
		}
		spoil(row)
		want := append(pattern(2*size), make([]byte, size)...)
		holds(t, d, want)
		kept := bytes.Clone(row)
		writes(t, d, 0, make([]byte, 3*size), api.OK)
		if !bytes.Equal(row, kept) {
			t.Fatalf("what is written is seen in bytes that were given")
		}
	}
}

// P2, rule 3, and P13.4: behind refused calls the sectors are what they were; of the rest only the requests have changed, as the chapter says.
func TestRefusedCallsChangeNothing(t *testing.T) {
	for _, locked := range []bool{false, true} {
		for _, d := range []*Disk{made(t, 3, locked), filled(t, 3, locked)} {
			ahead, row := d.Copy(), bytes.Repeat([]byte{0xff}, 6*size)
			d.Write(3, row[:size])
			d.Write(0, row)
			d.Write(0, row[:size+1])
			d.Write(ones, row[:size])
			d.Read(3, size)
			d.Read(0, 7)
			d.Sector(3)
			d.Fail(1)
			d.Write(0, row[:size])
			d.Fail(1)
			d.Flush()
			same(t, d, ahead, true)
			holds(t, d, all(t, ahead))
			counts(t, d, 8, 0)
			flushes(t, d, api.OK)
		}
	}
}

// pair is a disk and its model, to which the same is done.
type pair struct {
	d *Disk
	m *model
}

// turn does one thing to both, and holds the answers against one another.
func (p *pair) turn(t *testing.T, chance *rand.Rand) {
	t.Helper()
	count := p.d.Count()
	at, n := somePlace(chance, count), someLength(chance, count)
	data := someBytes(chance, min(n, 3*count*size))
	switch chance.Intn(9) {
	case 0, 1:
		want, e := p.m.read(at, n)
		reads(t, p.d, at, n, want, e)
	case 2, 3:
		writes(t, p.d, at, data, p.m.write(at, data))
	case 4:
		flushes(t, p.d, p.m.flush())
	case 5:
		n := uint64(chance.Intn(6))
		if chance.Intn(4) == 0 {
			n = chance.Uint64() >> chance.Intn(64)
		}
		p.d.Fail(n)
		p.m.fail(n)
	case 6:
		if chance.Intn(3) == 0 {
			p.d.Fill(data)
			p.m.fill(data)
		}
	case 7:
		got, ok := p.d.Sector(at)
		if want, e := p.m.piece(at, size); ok != (e == api.OK) || !bytes.Equal(got, want) {
			t.Fatalf("Sector(%#x): %d bytes, %v", at, len(got), ok)
		}
	case 8:
		left, gone := *p, pair{p.d.Copy(), p.m.copy()}
		gone.d.Fill(data)
		gone.m.fill(data)
		if Same(left.d, gone.d) != bytes.Equal(left.m.row, gone.m.row) {
			t.Fatalf("Same: %v", Same(left.d, gone.d))
		}
		if chance.Intn(2) == 0 {
			*p = gone
		}
		left.as(t)
		gone.as(t)
	}
	counts(t, p.d, uint64(p.m.requests), uint64(p.m.flushes))
}

func (p *pair) as(t *testing.T) {
	t.Helper()
	holds(t, p.d, p.m.row)
	counts(t, p.d, uint64(p.m.requests), uint64(p.m.flushes))
	if p.d.Locked() != p.m.locked || p.d.Count() != uint64(len(p.m.row)/size) {
		t.Fatalf("Count %d, Locked %v", p.d.Count(), p.d.Locked())
	}
}

// P13.2 to P13.5: walks of all calls, held against a plain row of bytes.
func TestAgainstRowOfBytes(t *testing.T) {
	for seed := range int64(40) {
		chance := rand.New(rand.NewSource(seed))
		count, locked := uint64(1+chance.Intn(8)), seed%5 == 4
		p := &pair{made(t, count, locked), modelOf(count, locked)}
		for range 800 {
			p.turn(t, chance)
		}
		p.as(t)
	}
}

// Rule 4: what is told hangs on what was called alone: two disks to which the same happens tell the same, and asking changes nothing.
func TestAskingChangesNothing(t *testing.T) {
	a, b := filled(t, 3, false), filled(t, 3, false)
	for i := range uint64(40) {
		a.Sector(i % 4)
		a.Copy()
		Same(a, b)
		a.Fail(i % 3)
		b.Fail(i % 3)
		if e, f := do(a, i), do(b, i); e != f {
			t.Fatalf("%d and %d", e, f)
		}
		counts(t, a, b.Requests(), b.Flushes())
	}
	same(t, a, b, true)
}
