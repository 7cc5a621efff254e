package blk

import (
	"bytes"
	"math/rand"
	"slices"
	"testing"

	"vireo/api"
	"vireo/chain"
	"vireo/disk"
	"vireo/ram"
	"vireo/ring"
)

// P1: chains that no walk made: whatever pieces they name, of whatever memory, in whatever order, Use ends.
func TestAnyChain(t *testing.T) {
	numbers := []uint64{0, 1, 15, 16, 17, 512, 513, 529, most, most + 1, base - 1, base, base + 5, end - 1, end, 1 << 32, 1<<63 - 1, 1 << 63, ones - base, ones - 15, ones - 1, ones}
	chance := rand.New(rand.NewSource(7))
	x := over(t, 3, false)
	some := func() uint64 { return numbers[chance.Intn(len(numbers))] }
	for _, m := range []*ram.RAM{x.m, memory(t, page), nil} {
		for _, d := range []*disk.Disk{x.d, nil} {
			b := New(m, d, "any")
			if b.Disk() != d {
				t.Errorf("Disk is another one")
			}
			for i := range 4000 {
				m.Write(base, headed([]uint32{in, out, flush, getID, 9}[chance.Intn(5)], uint64(chance.Intn(5))))
				list := []api.Segment{reads(base, 16)}[:chance.Intn(2)]
				for range chance.Intn(5) {
					list = append(list, api.Segment{At: some(), Len: some(), Write: chance.Intn(2) == 0})
				}
				if i == 0 {
					list = nil
				}
				kept := slices.Clone(list)
				if n, ok := b.Use(chain.Chain{Segments: list, Table: api.Span{At: some(), Len: some()}}); !ok || n > most+1 {
					t.Fatalf("Use of %+v: %d, %v", list, n, ok)
				}
				if !slices.Equal(list, kept) {
					t.Fatalf("the chain has become %+v", list)
				}
				b.Notified(int(some()))
			}
			b.Log()
		}
	}
}

// someBeginning: 16 bytes that mostly are a request's beginning.
func someBeginning(chance *rand.Rand) []byte {
	row := headed(someKind(chance), uint64(chance.Intn(4)))
	if chance.Intn(8) == 0 {
		chance.Read(row)
	}
	return row
}

// someDesc: the descriptor number n: mostly, of two, the one is a beginning, and the other is to be written.
func someDesc(chance *rand.Rand, n uint64) api.Desc {
	d := api.Desc{Addr: begins + 16*uint64(chance.Intn(page/16)), Len: 16, Flags: api.FlagNext, Next: uint16(n + 1)}
	if n%2 == 1 {
		d = api.Desc{Addr: base + 16*uint64(chance.Intn(2*page/16)), Len: []uint32{1, 21, sector + 1}[chance.Intn(3)], Flags: api.FlagWrite}
	}
	switch chance.Intn(20) {
	case 0:
		d.Flags = uint16(chance.Intn(8))
	case 1:
		d.Next = uint16(chance.Intn(66))
	case 2:
		d.Len = uint32(chance.Intn(1100))
	}
	return d
}

// P1: whatever bytes a driver lays, and whatever its chains name, the queue's own pieces and the descriptors among it, a service ends.
func TestAnyBytes(t *testing.T) {
	chance := rand.New(rand.NewSource(8))
	served, broke := 0, 0
	for i := range 600 {
		x := live(t, 3, []uint64{0, indirect, eventIdx, indirect | eventIdx}[i%4])
		row := make([]byte, page)
		chance.Read(row)
		x.m.Write(base, row)
		for n := range uint64(page / 16) {
			x.m.Write(begins+16*n, someBeginning(chance))
		}
		for n := range uint64(64) {
			x.m.Write(table+16*n, ring.Bytes(someDesc(chance, n)))
			x.m.Store(avail+4+2*n, 2, uint64(2*chance.Intn(32)))
		}
		x.m.Store(avail+2, 2, uint64(1+chance.Intn(64)))
		x.notify(t)
		served += len(x.b.Log())
		if !x.b.Live() {
			broke++
		}
	}
	if served < 2000 || broke < 100 {
		t.Errorf("%d requests were served, %d queues broke", served, broke)
	}
}

// P1: no memory, no disk, and a device that New didn't make, without anything.
func TestWithoutAnything(t *testing.T) {
	for _, b := range []*Blk{New(nil, nil, ""), {}} {
		b.Notified(0)
		b.Notified(-1)
		for _, list := range [][]api.Segment{nil, plain(0, 0), plain(0, sector), plain(sector, 0), plain(0, 20)} {
			if n, ok := b.Use(chain.Chain{Segments: list}); n != 0 || !ok {
				t.Errorf("Use: %d, %v", n, ok)
			}
		}
		if b.Disk() != nil || len(b.Log()) != 0 || b.Live() || b.Line() {
			t.Errorf("it has something")
		}
	}
	b := New(nil, nil, "")
	if w, ok := b.Load(0x100, 8); w != 0 || !ok {
		t.Errorf("it tells of %d sectors", w)
	}
	// A memory without a disk: each request to it fails.
	m := memory(t, size)
	x := &bench{m, nil, New(m, nil, "none")}
	for kind, n := range map[uint32][2]uint64{in: {0, sector}, out: {sector, 0}, flush: {0, 0}} {
		m.Write(begins, headed(kind, 0))
		if count, ok := x.b.Use(chain.Chain{Segments: plain(n[0], n[1])}); count != 1 || !ok {
			t.Errorf("Use of kind %d: %d, %v", kind, count, ok)
		}
		x.logs(t, Done{Head{kind, 0}, bad, 1})
	}
}

// P1: a chain that no walk along this memory made, whose bytes aren't all there: none come to the disk.
func TestBytesThatAreNotThere(t *testing.T) {
	x := over(t, 4, false)
	for _, n := range []uint64{0, sector} {
		x.m.Write(begins, headed(out, 1))
		k := x.keeps()
		k.m.Store(ends, 1, bad)
		list := []api.Segment{reads(begins, 16), {At: end - n, Len: sector + n}, writes(ends, 1)}
		if count, ok := x.b.Use(chain.Chain{Segments: list}); count != 1 || !ok {
			t.Errorf("Use: %d, %v", count, ok)
		}
		x.is(t, k)
	}
}

// P2, rule 4: what is written to memory is the memory's own: neither the disk nor the name changes with it.
func TestNothingIsShared(t *testing.T) {
	x := over(t, 2, false)
	for range 3 {
		x.serves(t, getID, 0, plain(0, 20), want{written: append([]byte("a disk"), make([]byte, 14)...)})
		x.m.Write(data, bytes.Repeat([]byte{0xee}, 600))
		x.serves(t, in, 1, plain(0, sector), want{written: pattern(2*sector, 0)[sector:], asked: 1})
		x.m.Write(data, bytes.Repeat([]byte{0xee}, 600))
	}
	x.m.Write(begins+16, pattern(sector, 40))
	x.serves(t, out, 0, plain(sector, 0), want{asked: 1, puts: pattern(sector, 40)})
	x.m.Write(begins+16, bytes.Repeat([]byte{0xee}, sector))
	x.serves(t, in, 0, plain(0, sector), want{written: pattern(sector, 40), asked: 1})
}

// P2, rule 4: what is told hangs on what was called alone: two devices to which the same happens are alike, and asking changes nothing.
func TestTheSameTwice(t *testing.T) {
	one, two := rand.New(rand.NewSource(9)), rand.New(rand.NewSource(9))
	x, y := live(t, 4, 0), live(t, 4, 0)
	o, p := modelOf(t, x, "a disk"), modelOf(t, y, "a disk")
	var n, k uint16
	for range 200 {
		x.round(t, one, o, &n)
		y.round(t, two, p, &k)
		x.b.Disk()
		x.b.Live()
		Parse(x.stands(t, begins, 16))
		x.is(t, y.keeps())
		if a, b := x.b.Log(), y.b.Log(); !slices.Equal(a, b) {
			t.Fatalf("Log: %+v and %+v", a, b)
		}
		if !x.b.Live() {
			x, y = live(t, 4, 0), live(t, 4, 0)
		}
	}
}
