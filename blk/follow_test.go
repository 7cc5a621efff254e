package blk

import (
	"bytes"
	"math/rand"
	"slices"
	"testing"

	"vireo/api"
	"vireo/chain"
	"vireo/ring"
)

// P19.3: a request that doesn't end with BlkOK leaves the disk's sectors, whatever it asks for.
func TestBadRequestsLeaveTheDisk(t *testing.T) {
	chance := rand.New(rand.NewSource(2))
	left := map[uint32]int{}
	for range 3000 {
		x := over(t, 3, chance.Intn(4) == 0)
		x.d.Fail(uint64(chance.Intn(3)))
		before := x.held()
		list, head := someRequest(chance, 3, data)
		c := walked(t, x.m, list)
		r, _ := sizes(list)
		put(x.m, cut(list, false, 0, min(r, 16)), headed(head.Kind, head.Sector))
		x.b.Use(c)
		log := x.b.Log()
		if len(log) == 1 && log[0].Status == good {
			continue
		}
		if !bytes.Equal(x.held(), before) {
			t.Fatalf("%+v of %+v has changed the disk", log, list)
		}
		if len(log) == 1 {
			left[log[0].Kind]++
		}
	}
	if left[in] < 100 || left[out] < 100 || left[flush] < 20 || left[getID] < 20 {
		t.Errorf("requests that didn't end well: %v", left)
	}
}

// P19.4: what a BlkOut wrote a BlkIn of the same sectors reads, in pieces of any shape, whatever else is asked for between them.
func TestWhatIsWrittenIsRead(t *testing.T) {
	chance := rand.New(rand.NewSource(3))
	for range 300 {
		x := over(t, 8, false)
		n := uint64(1 + chance.Intn(4))
		at := uint64(chance.Intn(int(9 - n)))
		list := append([]api.Segment{reads(begins, 16)}, someParts(chance, n*sector, data, false)...)
		list = append(list, writes(ends, 1))
		row := got(x.m, cut(list, false, 16, n*sector))
		x.serves(t, out, at, list, want{asked: 1, puts: row})
		for range chance.Intn(4) {
			// Of other sectors, or such as may not be.
			switch chance.Intn(4) {
			case 0:
				x.serves(t, out, at, plain(n*sector+1, 0), refused)
			case 1:
				x.serves(t, out, at, plain(n*sector, 1), fails)
			case 2:
				x.serves(t, flush, at, plain(0, 0), want{asked: 1, flushed: 1})
			case 3:
				if at+n < 8 {
					x.serves(t, out, at+n, plain(sector, 0), want{asked: 1, puts: got(x.m, []api.Span{{At: begins + 16, Len: sector}})})
				}
			}
		}
		back := append([]api.Segment{reads(begins, 16)}, writes(data, 5), writes(data+5, 0), writes(data+page, n*sector-5), writes(ends, 1))
		x.serves(t, in, at, back, want{written: row, asked: 1})
		for i := range n {
			x.serves(t, in, at+i, plain(0, sector), want{written: row[i*sector:][:sector], asked: 1})
		}
	}
}

// P19.4: of a disk that others write, too.
func TestTheDiskIsOne(t *testing.T) {
	x := over(t, 4, false)
	y := &bench{x.m, x.d, New(x.m, x.d, "another")}
	row := pattern(sector, 77)
	x.m.Write(begins+16, row)
	x.serves(t, out, 2, plain(sector, 0), want{asked: 1, puts: row})
	y.serves(t, in, 2, plain(0, sector), want{written: row, asked: 1})
	x.d.Fill(pattern(4*sector, 5))
	x.serves(t, in, 3, plain(0, sector), want{written: pattern(4*sector, 5)[3*sector:], asked: 1})
	if s, _ := x.b.Disk().Sector(2); !bytes.Equal(s, pattern(4*sector, 5)[2*sector:][:sector]) {
		t.Errorf("Disk is another one")
	}
}

// round: a driver offers chains by chance, some of which may not be, and tells of them; the model does the same by walks of its own.
func (x *bench) round(t *testing.T, chance *rand.Rand, o *model, n *uint16) (broken bool) {
	t.Helper()
	l := api.Layout{Size: 64, Desc: table, Avail: avail, Used: used}
	var heads []int
	for i := range chance.Intn(3) {
		list, head := someRequest(chance, x.d.Count(), data)
		list = list[:min(len(list), 20)]
		lay(x.m, table, 20*i, list)
		r, _ := sizes(list)
		put(x.m, cut(list, false, 0, min(r, 16)), headed(head.Kind, head.Sector))
		if chance.Intn(60) == 0 {
			d, _ := ring.Desc(x.m, table, 20*i)
			d.Flags, d.Next = api.FlagNext, uint16(chance.Intn(70))
			x.m.Write(table+16*20*uint64(i), ring.Bytes(d))
		}
		heads = append(heads, 20*i)
		x.head(20 * i)
	}
	o.memory = x.stands(t, base, size)
	for _, head := range heads {
		c, e := chain.Walk(x.m, l, head, false)
		if e != api.OK {
			broken = true
			break
		}
		count := o.use(c.Segments)
		at := used - base + 4 + 8*(uint64(*n)%64)
		copy(o.memory[at:], []byte{byte(head), 0, 0, 0, byte(count), byte(count >> 8), byte(count >> 16), byte(count >> 24)})
		*n++
		copy(o.memory[used-base+2:], []byte{byte(*n), byte(*n >> 8)})
	}
	x.notify(t)
	return broken
}

// P19.1 to P19.4: many services, held against the model: the device touches nothing but what its queue and its chains name.
func TestServicesAgainstModel(t *testing.T) {
	chance := rand.New(rand.NewSource(4))
	served, broke := 0, 0
	for range 60 {
		x := live(t, 5, 0)
		o := modelOf(t, x, "a disk")
		n := uint16(0)
		for range 80 {
			if chance.Intn(5) == 0 {
				o.fail = chance.Intn(4)
				x.d.Fail(uint64(o.fail))
			}
			broken := x.round(t, chance, o, &n)
			x.as(t, o)
			if x.b.Live() == broken {
				t.Fatalf("Status %d", x.b.Bits)
			}
			if broken {
				broke++
				break
			}
		}
		log := x.b.Log()
		if !slices.Equal(log, o.log) {
			t.Fatalf("Log: %+v, not %+v", log, o.log)
		}
		served += len(log)
	}
	if served < 1000 || broke < 10 {
		t.Errorf("%d were served, %d queues broke", served, broke)
	}
}
