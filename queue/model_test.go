package queue

import (
	"bytes"
	"math"
	"math/rand"
	"slices"
	"testing"

	"vireo/api"
	"vireo/chain"
	"vireo/ram"
	"vireo/ring"
)

const (
	base  = 0x80000000
	ones  = math.MaxUint64
	page  = 4096
	small = 4 * page
	end   = base + small  // of a small memory
	data  = base + 2*page // where the pieces lie that chains name

	next     = api.FlagNext
	write    = api.FlagWrite
	indirect = api.FlagIndirect
)

// sizes: of all queues that may be.
var sizes = []int{1, 2, 4, 8, 16, 32, 64, 128, 256}

func made(t *testing.T, size uint64) *ram.RAM {
	t.Helper()
	m, e := ram.New(size)
	if e != api.OK || m == nil {
		t.Fatalf("New(%d): %d", size, e)
	}
	return m
}

// filled: a small memory with bytes in it of which no two near one another are alike; none is 0.
func filled(t *testing.T) *ram.RAM {
	t.Helper()
	m := made(t, small)
	row := make([]byte, small)
	for i := range row {
		row[i] = byte(i%251 + 1)
	}
	m.Write(base, row)
	return m
}

// layout: three pieces with room between them, in the first two pages of a small memory.
func layout(size int) api.Layout {
	return api.Layout{Size: size, Desc: base + 16, Avail: base + page + 130, Used: base + page + 1100}
}

// ending: three pieces each of which ends as near to a small memory's end as it may.
func ending(size int) api.Layout {
	n := uint64(size)
	return api.Layout{Size: size, Desc: end - 16*n, Avail: end - 6 - 2*n, Used: (end - 6 - 8*n) / 4 * 4}
}

// ready: a queue in a filled memory, from whose number 0 on nothing is offered, whose flags and event are 0, and whose descriptors are chains of one, each of its own.
func ready(t *testing.T, size int) (*ram.RAM, *Queue) {
	t.Helper()
	m, q := filled(t), &Queue{Layout: layout(size), Ready: true}
	if e := ring.Check(m, q.Layout); e != api.OK {
		t.Fatalf("Check of %+v: %d", q.Layout, e)
	}
	for i := range size {
		lay(t, m, q.Layout.Desc, i, single(i))
	}
	flags(m, q, 0)
	offer(m, q, 0)
	event(m, q, 0)
	return m, q
}

// at: the same, where both counts have come to a number.
func at(t *testing.T, size int, n uint16) (*ram.RAM, *Queue) {
	t.Helper()
	m, q := ready(t, size)
	q.Fetched, q.Used = n, n
	offer(m, q, n)
	return m, q
}

// single: the descriptor number i of a queue, as ready lays it.
func single(i int) api.Desc {
	return api.Desc{Addr: data + 5*uint64(i), Len: uint32(i + 1), Flags: uint16(write * (i % 2))}
}

// named: the chain of such a descriptor.
func named(i int) chain.Chain { return chain.Chain{Segments: []api.Segment{seg(single(i))}} }

func seg(d api.Desc) api.Segment {
	return api.Segment{At: d.Addr, Len: uint64(d.Len), Write: d.Flags&write > 0}
}

// What a driver does.

func lay(t *testing.T, m *ram.RAM, table uint64, i int, d api.Desc) {
	t.Helper()
	if !m.Write(table+16*uint64(i), ring.Bytes(d)) {
		t.Fatalf("a table at %#x: no place for the number %d", table, i)
	}
}

func flags(m *ram.RAM, q *Queue, w uint16) { m.Store(q.Layout.Avail, 2, uint64(w)) }

// offer: so many were offered, up to now.
func offer(m *ram.RAM, q *Queue, n uint16) { m.Store(q.Layout.Avail+2, 2, uint64(n)) }

// event: behind which number used the driver wants to be told.
func event(m *ram.RAM, q *Queue, n uint16) {
	m.Store(q.Layout.Avail+4+2*uint64(q.Layout.Size), 2, uint64(n))
}

// head: the number n that is offered begins with a descriptor.
func head(m *ram.RAM, q *Queue, n, of uint16) {
	m.Store(q.Layout.Avail+4+2*uint64(int(n)%q.Layout.Size), 2, uint64(of))
}

// give: heads are offered, behind those that were.
func give(m *ram.RAM, q *Queue, heads ...uint16) {
	n := half(m, q.Layout.Avail+2)
	for _, of := range heads {
		head(m, q, n, of)
		n++
	}
	offer(m, q, n)
}

// What a driver sees.

func half(m *ram.RAM, at uint64) uint16 {
	w, _ := m.Load(at, 2)
	return uint16(w)
}

// told: how many were used, up to now.
func told(m *ram.RAM, q *Queue) uint16 { return half(m, q.Layout.Used+2) }

// wanted: behind which number offered the device wants to be told.
func wanted(m *ram.RAM, q *Queue) uint16 {
	return half(m, q.Layout.Used+4+8*uint64(q.Layout.Size))
}

// entry: the head and the count of the number n that was used.
func entry(m *ram.RAM, q *Queue, n uint16) (uint64, uint64) {
	place := q.Layout.Used + 4 + 8*uint64(int(n)%q.Layout.Size)
	id, _ := m.Load(place, 4)
	count, _ := m.Load(place+4, 4)
	return id, count
}

// used: these heads were told to be used, with these counts, from a number on up to how many there are.
func used(t *testing.T, m *ram.RAM, q *Queue, from uint16, pairs ...[2]uint32) {
	t.Helper()
	for i, want := range pairs {
		if id, count := entry(m, q, from+uint16(i)); id != uint64(want[0]) || count != uint64(want[1]) {
			t.Fatalf("the number %d used: %d, %d, not %v", from+uint16(i), id, count, want)
		}
	}
	to := from + uint16(len(pairs))
	if q.Used != to || told(m, q) != to {
		t.Fatalf("Used %d, told %d, not %d", q.Used, told(m, q), to)
	}
}

// all: what stands in a memory. It is asked of a copy, so that no log is told of it.
func all(t *testing.T, m *ram.RAM) []byte {
	t.Helper()
	row, ok := m.Copy().Read(base, m.Size())
	if !ok {
		t.Fatalf("Read of all %d bytes", m.Size())
	}
	return row
}

// holds: just these bytes stand in a memory.
func holds(t *testing.T, m *ram.RAM, want []byte) {
	t.Helper()
	got := all(t, m)
	if bytes.Equal(got, want) {
		return
	}
	for i := range got {
		if got[i] != want[i] {
			t.Fatalf("at %#x stands %#x, not %#x", base+i, got[i], want[i])
		}
	}
}

// watched: a memory tells just these pieces while something is done.
func watched(t *testing.T, m *ram.RAM, reads, writes []api.Span, do func()) {
	t.Helper()
	log := &ram.Log{}
	m.Watch(log)
	do()
	m.Watch(nil)
	if !slices.Equal(log.Reads, reads) || !slices.Equal(log.Writes, writes) {
		t.Fatalf("read %+v, written %+v, not %+v, %+v", log.Reads, log.Writes, reads, writes)
	}
}

func sameChain(a, b chain.Chain) bool {
	return a.Table == b.Table && slices.Equal(a.Segments, b.Segments)
}

func sameItem(a, b Item) bool { return a.Head == b.Head && sameChain(a.Chain, b.Chain) }

// fetches: Fetch answers just that, and the queue is just that behind it.
func fetches(t *testing.T, m *ram.RAM, q *Queue, want Item, is bool, e api.Errno, behind Queue) {
	t.Helper()
	ahead := *q
	got, ok, errno := q.Fetch(m)
	if !sameItem(got, want) || ok != is || errno != e {
		t.Fatalf("Fetch of %+v: %+v, %v, %d, not %+v, %v, %d", ahead, got, ok, errno, want, is, e)
	}
	if *q != behind {
		t.Fatalf("Fetch of %+v leaves %+v, not %+v", ahead, *q, behind)
	}
}

// nothing: Fetch answers nothing but that error, and changes nothing.
func nothing(t *testing.T, m *ram.RAM, q *Queue, e api.Errno) {
	t.Helper()
	fetches(t, m, q, Item{}, false, e, *q)
}

// gets: Fetch answers an item, and one more was fetched.
func gets(t *testing.T, m *ram.RAM, q *Queue, want Item) {
	t.Helper()
	behind := *q
	behind.Fetched++
	fetches(t, m, q, want, true, api.OK, behind)
}

// refuses: Fetch answers a head alone, and an error; one more was fetched.
func refuses(t *testing.T, m *ram.RAM, q *Queue, head uint16, e api.Errno) {
	t.Helper()
	behind := *q
	behind.Fetched++
	fetches(t, m, q, Item{Head: head}, false, e, behind)
}

// serves: Serve answers just that.
func serves(t *testing.T, m *ram.RAM, q *Queue, device func(chain.Chain) (uint32, bool), tells bool, e api.Errno) {
	t.Helper()
	ahead := *q
	if got, errno := q.Serve(m, device); got != tells || errno != e {
		t.Fatalf("Serve of %+v: %v, %d, not %v, %d", ahead, got, errno, tells, e)
	}
}

// never: a device that mustn't be asked.
func never(t *testing.T) func(chain.Chain) (uint32, bool) {
	return func(c chain.Chain) (uint32, bool) {
		t.Errorf("the device is asked with %+v", c)
		return 0, true
	}
}

// answer is what a device says of a chain, and what it lays into memory ahead of that.
type answer struct {
	count uint32
	done  bool
	lays  []patch
}

type patch struct {
	at   uint64
	data []byte
}

// player: a device that answers as it is told, one answer a chain, and keeps the chains; behind the last answer it can't have any.
type player struct {
	m       *ram.RAM
	answers []answer
	chains  []chain.Chain
}

func (p *player) use(c chain.Chain) (uint32, bool) {
	n := len(p.chains)
	p.chains = append(p.chains, c)
	if n >= len(p.answers) {
		return 77, false
	}
	for _, x := range p.answers[n].lays {
		p.m.Write(x.at, x.data)
	}
	return p.answers[n].count, p.answers[n].done
}

// says: a player that says these counts, and that it can't have what comes behind them.
func says(m *ram.RAM, counts ...uint32) *player {
	p := &player{m: m}
	for _, n := range counts {
		p.answers = append(p.answers, answer{count: n, done: true})
	}
	return p
}

// was: a player was asked with just these chains.
func (p *player) was(t *testing.T, want ...chain.Chain) {
	t.Helper()
	if !slices.EqualFunc(p.chains, want, sameChain) {
		t.Fatalf("the device is asked with %+v, not %+v", p.chains, want)
	}
}

// The model takes words from the memory by their places, and reckons with numbers that don't begin anew by themselves.

func modelFetch(m *ram.RAM, q *Queue) (Item, bool, api.Errno) {
	if !q.Ready {
		return Item{}, false, api.OK
	}
	if e := ring.Check(m, q.Layout); e != api.OK {
		return Item{}, false, e
	}
	waiting := (65536 + int(half(m, q.Layout.Avail+2)) - int(q.Fetched)) % 65536
	switch {
	case waiting == 0:
		return Item{}, false, api.OK
	case waiting > q.Layout.Size:
		return Item{}, false, api.ErrJump
	}
	head := half(m, q.Layout.Avail+4+2*uint64(int(q.Fetched)%q.Layout.Size))
	q.Fetched = uint16((int(q.Fetched) + 1) % 65536)
	c, e := chain.Walk(m, q.Layout, int(head), q.Indirect)
	if e != api.OK {
		return Item{Head: head}, false, e
	}
	return Item{Head: head, Chain: c}, true, api.OK
}

func modelReturn(m *ram.RAM, q *Queue, head uint16, count uint32) {
	place := q.Layout.Used + 4 + 8*uint64(int(q.Used)%q.Layout.Size)
	m.Store(place, 4, uint64(head))
	m.Store(place+4, 4, uint64(count))
	q.Used = uint16((int(q.Used) + 1) % 65536)
	m.Store(q.Layout.Used+2, 2, uint64(q.Used))
}

func modelTells(m *ram.RAM, q *Queue, from uint16) bool {
	if from == q.Used {
		return false
	}
	if !q.EventIdx {
		return half(m, q.Layout.Avail)%2 == 0
	}
	event := half(m, q.Layout.Avail+4+2*uint64(q.Layout.Size))
	for n := int(from); n%65536 != int(q.Used); n++ {
		if n%65536 == int(event) {
			return true
		}
	}
	return false
}

func modelAsk(m *ram.RAM, q *Queue) {
	if q.EventIdx {
		m.Store(q.Layout.Used+4+8*uint64(q.Layout.Size), 2, uint64(q.Fetched))
	}
}

// modelServe: what Serve must do and tell, and the heads that were given and taken, in order.
func modelServe(m *ram.RAM, q *Queue, device func(chain.Chain) (uint32, bool)) (bool, api.Errno, []uint16) {
	from, heads := q.Used, []uint16(nil)
	var errno api.Errno
	for len(heads) < 65537 {
		fetched := q.Fetched
		item, is, e := modelFetch(m, q)
		errno = e
		if !is {
			break
		}
		count, done := device(item.Chain)
		if !done {
			q.Fetched = fetched
			break
		}
		modelReturn(m, q, item.Head, count)
		heads = append(heads, item.Head)
	}
	if errno == api.OK && q.Ready {
		modelAsk(m, q)
	}
	if !q.Ready || ring.Check(m, q.Layout) != api.OK {
		return false, errno, heads
	}
	return modelTells(m, q, from), errno, heads
}

// someDesc: mostly one that may be, in a table of so many.
func someDesc(chance *rand.Rand, size int) api.Desc {
	d := api.Desc{Addr: data + chance.Uint64()%page, Len: uint32(chance.Intn(40)), Next: uint16(chance.Intn(size))}
	switch chance.Intn(60) {
	case 0:
		d.Addr = end - 40 + chance.Uint64()%60
	case 1:
		d.Len = chance.Uint32()
	case 2:
		d.Next = uint16(chance.Uint32())
	}
	if chance.Intn(5) == 0 {
		d.Flags |= next
	}
	if chance.Intn(3) == 0 {
		d.Flags |= write
	}
	if chance.Intn(20) == 0 {
		// The table of which one can be sure that it lies in the memory is the queue's own.
		d.Addr, d.Len, d.Flags = base+16, uint32(16*size), indirect
	}
	return d
}

// someLayout: mostly one whose pieces lie beside one another; else they may lie upon one another.
func someLayout(chance *rand.Rand) api.Layout {
	l := layout(sizes[chance.Intn(6)])
	if chance.Intn(4) == 0 {
		l.Avail = base + page + 2*uint64(chance.Intn(32))
		l.Used = base + page + 4*uint64(chance.Intn(16))
	}
	switch chance.Intn(60) {
	case 0:
		l.Size = chance.Intn(300)
	case 1:
		l.Avail++
	case 2:
		l.Used = end - 4*uint64(chance.Intn(20))
	}
	return l
}

// someQueue: a memory with a queue of any kind in it, to which mostly some chains are offered.
func someQueue(t *testing.T, chance *rand.Rand) (*ram.RAM, *Queue) {
	m := filled(t)
	q := &Queue{
		Layout: someLayout(chance), Ready: chance.Intn(20) > 0,
		EventIdx: chance.Intn(2) == 0, Indirect: chance.Intn(3) > 0,
		Fetched: uint16(chance.Intn(16) - 8), Used: uint16(chance.Intn(16) - 8),
	}
	if chance.Intn(3) == 0 {
		q.Fetched, q.Used = uint16(chance.Uint32()), uint16(chance.Uint32())
	}
	if ring.Check(m, q.Layout) != api.OK {
		return m, q
	}
	size := q.Layout.Size
	for i := range size {
		lay(t, m, q.Layout.Desc, i, someDesc(chance, size))
		head(m, q, uint16(i), uint16(chance.Intn(size)))
	}
	if chance.Intn(20) == 0 {
		head(m, q, uint16(chance.Intn(size)), uint16(size+chance.Intn(3)))
	}
	flags(m, q, uint16(chance.Intn(4)))
	event(m, q, q.Used+uint16(chance.Intn(6))-2)
	offer(m, q, q.Fetched+uint16(chance.Intn(size+1+chance.Intn(2))))
	return m, q
}

// somePatch: a driver's doing while a device is asked: a chain more, another head, another descriptor, or any bytes near the queue.
func somePatch(chance *rand.Rand, q *Queue) patch {
	avail, size := q.Layout.Avail, max(1, q.Layout.Size)
	switch chance.Intn(5) {
	case 0, 1:
		n := q.Fetched + uint16(chance.Intn(size+3))
		return patch{avail + 2, []byte{byte(n), byte(n >> 8)}}
	case 2:
		return patch{avail + 4 + 2*uint64(chance.Intn(size)), []byte{byte(chance.Intn(size)), 0}}
	case 3:
		return patch{q.Layout.Desc + 16*uint64(chance.Intn(size)), ring.Bytes(someDesc(chance, size))}
	}
	return patch{base + page + uint64(chance.Intn(200)), []byte{byte(chance.Uint32()), byte(chance.Uint32())}}
}

// someAnswers: mostly that it has the chain, now and then with something laid.
func someAnswers(chance *rand.Rand, q *Queue) []answer {
	var out []answer
	for range chance.Intn(80) {
		x := answer{count: chance.Uint32() >> chance.Intn(32), done: chance.Intn(12) > 0}
		for chance.Intn(4) == 0 {
			x.lays = append(x.lays, somePatch(chance, q))
		}
		out = append(out, x)
	}
	return out
}
