package machine

import (
	"bytes"
	"fmt"
	"slices"
	"testing"

	"vireo/blk"
)

// asked is a request as a driver makes it, how it ends, and what of it is told.
type asked struct {
	kind, first, bytes uint64
	in                 bool
	fault              uint64 // told ahead of it, and 0: nothing is
	end                byte
	count              uint32
}

// driver: a program that makes requests one behind the other; "n" is where it tells the disk of the one number n, "n done" where it goes on.
func driver(list ...asked) *program {
	p := &program{}
	p.device(blkAt, 4, blkQ)
	p.mark("ready")
	for n, r := range list {
		p.request(r.kind, r.first, r.bytes, r.in)
		p.put("sb", ends, 77)
		p.put("sh", blkQ+availAt+2, uint64(n+1))
		p.li("x5", 0)
		p.li("x6", blkAt+0x50)
		p.mark(fmt.Sprint(n))
		p.add("sw x5,0(x6)")
		p.mark(fmt.Sprint(n, " done"))
	}
	p.stay()
	return p
}

// P23.2, P23.3: requests of a driver: those that are served well, that fail, and by which fault; the disk and what is told of them, each behind its own store.
func TestRequests(t *testing.T) {
	list := []asked{
		{kind: 0, first: 3, bytes: 512, in: true, end: 0, count: 513},
		{kind: 1, first: 1, bytes: 512, end: 0, count: 1},
		{kind: 0, first: 1, bytes: 512, in: true, end: 0, count: 513},
		{kind: 0, first: 2, bytes: 1024, in: true, end: 0, count: 1025},
		{kind: 0, first: 3, bytes: 1024, in: true, end: 1, count: 1},
		{kind: 1, first: 4, bytes: 512, end: 1, count: 1},
		{kind: 1, first: 0, bytes: 511, end: 1, count: 1},
		{kind: 99, first: 0, bytes: 512, end: 2, count: 1},
		{kind: 4, end: 0, count: 1},
		{kind: 8, bytes: 20, in: true, end: 0, count: 21},
		{kind: 8, bytes: 21, in: true, end: 1, count: 1},
		{kind: 0, first: 0, bytes: 512, in: true, fault: 1, end: 1, count: 1},
		{kind: 0, first: 0, bytes: 512, in: true, end: 0, count: 513},
		{kind: 1, first: 9, bytes: 512, fault: 1, end: 1, count: 1},
		{kind: 1, first: 0, bytes: 1024, fault: 2, end: 0, count: 1},
		{kind: 4, end: 1, count: 1},
		{kind: 4, end: 0, count: 1},
	}
	p := driver(list...)
	m := made(t, config(p.image(t)))
	d := m.Disk()
	want := slices.Clone(onDisk)
	requests := uint64(0)
	for n, r := range list {
		m.runs(t, p, fmt.Sprint(n))
		fill := pattern(1024, 20*n)
		m.Write(content, fill)
		if r.fault != 0 {
			m.does(t, faults, r.fault)
		}
		if len(m.Served()) != 0 || m.loads(t, ends, 1) != 77 {
			t.Fatalf("ahead of request %d something is served", n)
		}
		before := m.keeps()
		m.does(t, steps, 1)
		if end := m.loads(t, ends, 1); end != uint64(r.end) {
			t.Fatalf("request %d ends with %d", n, end)
		}
		// What was read stands in memory, what was written on the disk, and nothing else.
		stands := slices.Clone(fill)
		if r.end == 0 {
			switch r.kind {
			case 0:
				copy(stands, want[r.first*512:r.first*512+r.bytes])
			case 1:
				copy(want[r.first*512:], fill[:r.bytes])
			case 8:
				copy(stands, append([]byte("a disk"), make([]byte, 14)...))
			}
		}
		before.m.Write(content, stands)
		before.m.Write(ends, []byte{r.end})
		slot := blkQ + usedAt + 4 + 8*uint64(n%4)
		before.m.Store(slot, 8, uint64(r.count)<<32)
		before.m.Store(blkQ+usedAt+2, 2, uint64(n+1))
		if got := m.reads(t, base, size); !bytes.Equal(got, before.m0()) {
			t.Fatalf("request %d: the memory isn't as it should be", n)
		}
		if !bytes.Equal(sectorsOf(m.Disk()), want) || m.Disk() != d || m.Blk.Disk() != d {
			t.Fatalf("request %d: the disk isn't as it should be", n)
		}
		one := []blk.Done{{Head: blk.Head{Kind: uint32(r.kind), Sector: r.first}, Status: r.end, Count: r.count}}
		if got := m.Served(); !slices.Equal(got, one) {
			t.Fatalf("request %d: %+v were served, not %+v", n, got, one)
		}
		if got := m.Served(); len(got) != 0 {
			t.Fatalf("request %d: %+v were served once more", n, got)
		}
		if r.kind < 2 || r.kind == 4 {
			requests++
		}
		if d.Requests() != requests {
			t.Fatalf("request %d: %d came to the disk, not %d", n, d.Requests(), requests)
		}
	}
	if d.Flushes() != 2 || len(m.TTY.Output()) != 0 {
		t.Errorf("%d flushes, %q", d.Flushes(), m.TTY.Output())
	}
}

// m0: all bytes of the memory.
func (k *kept) m0() []byte {
	list, _ := k.m.Read(base, size)
	return list
}

// P23.3: what was served since it was last asked, in order, however long ago; asking for other things leaves it.
func TestServedAllAtOnce(t *testing.T) {
	p := driver(asked{kind: 0, first: 3, bytes: 512, in: true}, asked{kind: 1, first: 9, bytes: 512}, asked{kind: 77, first: 1 << 40, bytes: 1}, asked{kind: 4})
	m := made(t, config(p.image(t)))
	m.runs(t, p, "stay")
	m.keeps()
	m.Disk().Flush()
	m.Disk().Read(0, 512)
	want := []blk.Done{
		{Head: blk.Head{Kind: 0, Sector: 3}, Status: 0, Count: 513}, {Head: blk.Head{Kind: 1, Sector: 9}, Status: 1, Count: 1},
		{Head: blk.Head{Kind: 77, Sector: 1 << 40}, Status: 2, Count: 1}, {Head: blk.Head{Kind: 4}, Status: 0, Count: 1},
	}
	list := m.Served()
	if !slices.Equal(list, want) {
		t.Errorf("%+v were served", list)
	}
	if again := m.Served(); len(again) != 0 {
		t.Errorf("%+v were served once more", again)
	}
}

// P23.3: chains that are no requests (a beginning that is too short, no place for the end) are used, but not told of, and come to no disk.
func TestChainsThatAreNoRequests(t *testing.T) {
	p := &program{}
	p.device(blkAt, 4, blkQ)
	p.desc(blkQ, 0, begins, 15, 1, 2)
	p.desc(blkQ, 2, ends, 1, 2, 0)
	p.offer(blkAt, 0, blkQ, 1)
	p.desc(blkQ, 0, begins, 16, 0, 0)
	p.offer(blkAt, 0, blkQ, 2)
	p.stay()
	m := made(t, config(p.image(t)))
	m.Write(ends, []byte{55})
	m.runs(t, p, "stay")
	if len(m.Served()) != 0 || m.Disk().Requests() != 0 || m.loads(t, ends, 1) != 55 || m.loads(t, blkQ+usedAt+2, 2) != 2 || m.loads(t, blkQ+usedAt+4, 8) != 0 {
		t.Errorf("%d used, %d requests", m.loads(t, blkQ+usedAt+2, 2), m.Disk().Requests())
	}
}

// A chain that leads to itself: the seventh of the document's examples.
func TestAChainThatLeadsToItself(t *testing.T) {
	p := &program{}
	p.device(blkAt, 4, blkQ)
	p.request(0, 3, 512, true)
	p.desc(blkQ, 2, ends, 1, 3, 2)
	p.offer(blkAt, 0, blkQ, 1)
	p.mark("broken")
	p.desc(blkQ, 2, ends, 1, 2, 0)
	p.offer(blkAt, 0, blkQ, 2)
	p.mark("told again")
	p.put("sw", blkAt+0x70, 0)
	p.device(blkAt, 4, blkQ)
	p.put("sh", blkQ+availAt+2, 0)
	p.offer(blkAt, 0, blkQ, 1)
	p.stay()
	m := made(t, config(p.image(t)))
	want := m.keeps()
	for _, name := range []string{"broken", "told again"} {
		m.runs(t, p, name)
		if m.loads(t, blkAt+0x70, 4) != 79 || m.loads(t, blkQ+usedAt+2, 2) != 0 || len(m.Served()) != 0 || m.Disk().Requests() != 0 {
			t.Fatalf("%s: status %d", name, m.Blk.Bits)
		}
	}
	m.runs(t, p, "stay")
	if list := m.Served(); len(list) != 1 || list[0].Count != 513 || !bytes.Equal(m.reads(t, content, 512), onDisk[3*512:]) || m.loads(t, blkQ+usedAt+2, 2) != 1 {
		t.Errorf("%+v were served", list)
	}
	if !bytes.Equal(m.keeps().output, want.output) || !bytes.Equal(sectorsOf(m.Disk()), onDisk) {
		t.Errorf("the disk is another one")
	}
}

// P23.1: a disk that is locked: a driver's write fails, what was there stays, and its reads are served.
func TestALockedDisk(t *testing.T) {
	p := driver(asked{kind: 1, first: 1, bytes: 512}, asked{kind: 0, first: 1, bytes: 512, in: true}, asked{kind: 4})
	c := config(p.image(t))
	c.Locked = true
	m := made(t, c)
	m.runs(t, p, "stay")
	want := []blk.Done{{Head: blk.Head{Kind: 1, Sector: 1}, Status: 1, Count: 1}, {Head: blk.Head{Kind: 0, Sector: 1}, Status: 0, Count: 513}, {Head: blk.Head{Kind: 4}, Status: 0, Count: 1}}
	if list := m.Served(); !slices.Equal(list, want) {
		t.Errorf("%+v were served", list)
	}
	if !bytes.Equal(sectorsOf(m.Disk()), onDisk) || !bytes.Equal(m.reads(t, content, 512), onDisk[512:1024]) || !m.Disk().Locked() || m.Disk().Requests() != 3 {
		t.Errorf("the disk is another one")
	}
}

// P23.1: the disk's name: its first twenty bytes, 0 behind them.
func TestName(t *testing.T) {
	p := driver(asked{kind: 8, bytes: 20, in: true})
	list := p.image(t)
	for _, name := range []string{"", "v", "vireo", "nineteen bytes long", "twenty bytes, really", "twenty-one bytes, yes", "a name that is far longer than twenty bytes", "\x00\xff\x80 any bytes", string(pattern(1000, 3))} {
		c := config(list)
		c.Name = name
		m := made(t, c)
		m.Write(content, pattern(30, 1))
		m.runs(t, p, "stay")
		want := make([]byte, 20)
		copy(want, name)
		want = append(want, pattern(30, 1)[20:]...)
		if got := m.reads(t, content, 30); !bytes.Equal(got, want) || m.loads(t, ends, 1) != 0 {
			t.Errorf("the name %.50q: %q", name, got)
		}
	}
}

// P23.3: of very many requests the first ones are told, as layer 19 says.
func TestServedOfVeryMany(t *testing.T) {
	p := driver(asked{kind: 4})
	p.lines = p.lines[:len(p.lines)-1]
	p.li("x7", blkQ+availAt)
	p.add("addi x8,x0,2")
	p.mark("again")
	p.add("sh x8,2(x7)", "sw x0,0(x6)", "addi x8,x8,1", "jal x0,@again")
	m := made(t, config(p.image(t)))
	m.runs(t, p, "again")
	m.does(t, steps, 4*5000)
	if m.Disk().Flushes() != 5001 || len(m.Served()) != 4096 || len(m.Served()) != 0 {
		t.Errorf("%d flushes", m.Disk().Flushes())
	}
	m.does(t, steps, 8)
	if list := m.Served(); len(list) != 2 || m.Disk().Flushes() != 5003 {
		t.Errorf("%d were served, %d flushes", len(list), m.Disk().Flushes())
	}
}
