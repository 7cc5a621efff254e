package vmmio

import (
	"math"
	"math/rand"
	"slices"
	"testing"

	"vireo/api"
	"vireo/chain"
	"vireo/queue"
	"vireo/ram"
)

// working: a device that is Live, with queues that are Ready, in a memory of its own.
func working(t *testing.T, features uint64, queues int) (*ram.RAM, *Regs) {
	t.Helper()
	m, r := made(t), begun(t, features, queues)
	for n := range queues {
		lays(t, m, r, n, layout(n))
	}
	return m, r
}

// lengths: how much room the chains have that a device was asked with.
func lengths(p *player) []uint64 {
	var out []uint64
	for _, c := range p.chains {
		_, room := c.Sizes()
		out = append(out, room)
	}
	return out
}

// serves: Serve asks the device with chains of so much room, and makes that of what is Pending and of the status.
func serves(t *testing.T, m *ram.RAM, r *Regs, n int, p *player, pending, bits uint32, want ...uint64) {
	t.Helper()
	p.chains = nil
	r.Serve(m, n, p)
	if got := lengths(p); !slices.Equal(got, want) {
		t.Fatalf("the device is asked with %v, not with %v", got, want)
	}
	if r.Pending != pending || r.Bits != bits {
		t.Fatalf("Pending %d, Status %d, not %d, %d", r.Pending, r.Bits, pending, bits)
	}
}

// silent: Serve asks no device, and changes neither the registers nor the memory.
func silent(t *testing.T, m *ram.RAM, r *Regs, n int) {
	t.Helper()
	row, before := string(all(t, m)), copied(r)
	p := &player{}
	r.Serve(m, n, p)
	if len(p.chains) > 0 || string(all(t, m)) != row {
		t.Fatalf("Serve of %d: asked with %+v", n, p.chains)
	}
	is(t, r, before)
}

// P18.5: chains that are served, one behind the other, of the queue with that number alone; then the driver is told.
func TestServe(t *testing.T) {
	m, r := working(t, 0, 3)
	p := &player{}
	give(m, r.Queues[1], 5, 7)
	give(m, r.Queues[2], 9)
	want := copied(r)
	serves(t, m, r, 1, p, 1, 15, 5, 7)
	used(t, m, r.Queues[1], 2)
	if w, _ := m.Load(layout(1).Used+4, 8); w != 5<<32 {
		t.Errorf("the first: %#x", w)
	}
	if w, _ := m.Load(layout(1).Used+12, 8); w != 7<<32|1 {
		t.Errorf("the second: %#x", w)
	}
	want.Queues[1].Fetched, want.Queues[1].Used, want.Pending = 2, 2, 1
	is(t, r, want)
	serves(t, m, r, 1, p, 1, 15)
	serves(t, m, r, 0, p, 1, 15)
	r.Pending = 0
	serves(t, m, r, 2, p, 1, 15, 9)
	r.Pending = 0
	serves(t, m, r, 2, p, 0, 15)
}

// P18.5: each of as many queues as there can be is served by its own number.
func TestServeOfEach(t *testing.T) {
	m, r := working(t, 0, 16)
	for n := range 16 {
		give(m, r.Queues[n], uint32(n+1))
	}
	for n := range 16 {
		r.Pending = 0
		serves(t, m, r, n, &player{}, 1, 15, uint64(n+1))
		for i := range 16 {
			used(t, m, r.Queues[i], min(1, (n+1)/(i+1)))
		}
	}
}

// P18.5: the interrupt has UsedBit more just if the queue tells it so; ConfigBit stays as it is.
func TestServeTells(t *testing.T) {
	for _, was := range []uint32{0, 1, 2, 3} {
		m, r := working(t, 0, 1)
		r.Pending = was
		m.Store(layout(0).Avail, 2, api.NoInterrupt)
		give(m, r.Queues[0], 3)
		serves(t, m, r, 0, &player{}, was, 15, 3)
		m.Store(layout(0).Avail, 2, 0)
		give(m, r.Queues[0], 4)
		serves(t, m, r, 0, &player{}, was|1, 15, 4)
		used(t, m, r.Queues[0], 2)
	}
	m, r := working(t, eventIdx, 1)
	m.Store(layout(0).Avail+12, 2, 1) // to be told behind the number 1
	give(m, r.Queues[0], 3)
	serves(t, m, r, 0, &player{}, 0, 15, 3)
	give(m, r.Queues[0], 4)
	serves(t, m, r, 0, &player{}, 1, 15, 4)
	if w, _ := m.Load(layout(0).Used+36, 2); w != 2 {
		t.Errorf("the device wants to be told behind %d", w)
	}
}

// P18.5: a device that can't have a chain yet gets it again; nothing is told of it.
func TestServeOfNotYet(t *testing.T) {
	m, r := working(t, 0, 1)
	give(m, r.Queues[0], 5, 6, 7)
	some := 0
	p := &player{does: func(n int, _ chain.Chain) (uint32, bool) { return 1, n < some }}
	serves(t, m, r, 0, p, 0, 15, 5)
	used(t, m, r.Queues[0], 0)
	some = 2
	serves(t, m, r, 0, p, 1, 15, 5, 6, 7)
	used(t, m, r.Queues[0], 2)
	r.Pending = 0
	serves(t, m, r, 0, p, 1, 15, 7)
	used(t, m, r.Queues[0], 3)
}

// P18.5: nothing of a device that isn't Live, whatever else is set.
func TestServeOfNoneLive(t *testing.T) {
	for bits := range uint32(256) {
		m, r := working(t, eventIdx, 1)
		give(m, r.Queues[0], 5)
		r.Bits = bits
		if bits&(4|64) != 4 {
			silent(t, m, r, 0)
			continue
		}
		serves(t, m, r, 0, &player{}, 1, bits, 5)
	}
}

// P18.5: nothing of a queue that there isn't, of any number.
func TestServeOfNoQueue(t *testing.T) {
	for _, queues := range []int{0, 1, 2} {
		m, r := working(t, eventIdx, queues)
		for i := range queues {
			give(m, r.Queues[i], 5)
		}
		for _, n := range []int{math.MinInt, math.MinInt + 1, math.MinInt32, -65536, -256, -16, -2, -1, 2, 3, 15, 16, 17, 256, 65536, 1 << 31, 1 << 32, 1<<32 + 1, math.MaxInt} {
			silent(t, m, r, n)
		}
	}
}

// P18.5: nothing of a queue that isn't Ready.
func TestServeOfNoneReady(t *testing.T) {
	m, r := working(t, eventIdx, 2)
	give(m, r.Queues[0], 5)
	drive(t, m, r, [2]uint64{0x30, 0}, [2]uint64{0x44, 0})
	silent(t, m, r, 0)
	r.Queues[0].Layout = api.Layout{Size: 3}
	silent(t, m, r, 0)
	serves(t, m, r, 1, &player{}, 0, 15)
	drive(t, m, r, [2]uint64{0x70, 0})
	silent(t, m, r, 0)
	silent(t, m, r, 1)
}

// P18.5: a chain that is refused breaks the device; those ahead of it are told, those behind it aren't served.
func TestServeOfBrokenChains(t *testing.T) {
	for _, silence := range []uint64{0, api.NoInterrupt} {
		for _, was := range []uint32{0, 1, 2, 3} {
			for good := range 4 {
				m, r := working(t, 0, 1)
				r.Pending = was
				m.Store(layout(0).Avail, 2, silence)
				rows := []uint32{5, 6, 7}[:good]
				give(m, r.Queues[0], append(slices.Clone(rows), 0)...)
				var want []uint64
				pending := was | 2
				for _, n := range rows {
					want = append(want, uint64(n))
					if silence == 0 {
						pending |= 1
					}
				}
				serves(t, m, r, 0, &player{}, pending, 79, want...)
				used(t, m, r.Queues[0], good)
				give(m, r.Queues[0], 8)
				silent(t, m, r, 0)
			}
		}
	}
}

// P18.5: each of a queue's errors breaks the device: more chains than there can be, a chain that leads to itself, a layout that may not be by now.
func TestServeOfErrors(t *testing.T) {
	loop := []byte{0, 32, 0, 128, 0, 0, 0, 0, 1, 0, 0, 0, 1, 0, 0, 0}
	for name, do := range map[string]func(m *ram.RAM, q *queue.Queue){
		"jump":  func(m *ram.RAM, q *queue.Queue) { m.Store(q.Layout.Avail+2, 2, 5) },
		"loop":  func(m *ram.RAM, q *queue.Queue) { m.Write(q.Layout.Desc, loop) },
		"index": func(m *ram.RAM, q *queue.Queue) { m.Store(q.Layout.Avail+4, 2, 4) },
		"order": func(m *ram.RAM, q *queue.Queue) {
			m.Store(q.Layout.Desc+12, 4, 3|1<<16)
			m.Store(q.Layout.Desc+16+12, 4, 0)
		},
		"nested": func(m *ram.RAM, q *queue.Queue) { m.Store(q.Layout.Desc+12, 2, api.FlagIndirect) },
		"layout": func(m *ram.RAM, q *queue.Queue) { q.Layout.Desc++ },
		"place":  func(m *ram.RAM, q *queue.Queue) { q.Layout.Used = end },
	} {
		m, r := working(t, 0, 2)
		give(m, r.Queues[1], 5)
		do(m, &r.Queues[1])
		give(m, r.Queues[0], 6)
		p := &player{}
		r.Serve(m, 1, p)
		if len(p.chains) > 0 || r.Bits != 79 || r.Pending != 2 {
			t.Errorf("%s: asked with %+v; Status %d, Pending %d", name, p.chains, r.Bits, r.Pending)
		}
		silent(t, m, r, 0)
		silent(t, m, r, 1)
		drive(t, m, r, [2]uint64{0x70, 0})
		loads(t, r, 0x70, 4, 0, true)
	}
	_, r := working(t, 0, 1)
	p := &player{}
	serves(t, nil, r, 0, p, 2, 79)
}

// P18.5: tables of descriptors just if they were agreed on.
func TestServeOfTables(t *testing.T) {
	for _, features := range []uint64{0, indirect} {
		m, r := working(t, features, 1)
		give(m, r.Queues[0], 5)
		desc, _ := m.Read(layout(0).Desc, 16)
		m.Write(data+256, desc)
		m.Store(layout(0).Desc, 8, data+256)
		m.Store(layout(0).Desc+8, 8, 16|api.FlagIndirect<<32)
		if features == 0 {
			serves(t, m, r, 0, &player{}, 2, 79)
		} else {
			serves(t, m, r, 0, &player{}, 1, 15, 5)
		}
	}
}

// P18.5, P18.6: a device that breaks while it is asked: that chain is told as it says, those behind it stay.
func TestServeOfDeviceThatBreaks(t *testing.T) {
	for _, done := range []bool{true, false} {
		m, r := working(t, 0, 1)
		give(m, r.Queues[0], 5, 6, 7)
		p := &player{does: func(n int, _ chain.Chain) (uint32, bool) {
			if n == 1 {
				r.Break()
				return 1, done
			}
			return 1, true
		}}
		serves(t, m, r, 0, p, 3, 79, 5, 6)
		left := 1
		if done {
			left = 2
		}
		used(t, m, r.Queues[0], left)
		if r.Queues[0].Fetched != uint16(left) {
			t.Errorf("Fetched: %d", r.Queues[0].Fetched)
		}
		silent(t, m, r, 0)
	}
}

// P18.5: a device that is reset while it is asked: nothing more is served, told or written.
func TestServeOfDeviceThatIsReset(t *testing.T) {
	for _, done := range []bool{true, false} {
		m, r := working(t, eventIdx, 2)
		give(m, r.Queues[1], 5, 6)
		row := string(all(t, m))
		want := New(9, eventIdx, 2)
		p := &player{does: func(int, chain.Chain) (uint32, bool) {
			drive(t, m, r, [2]uint64{0x70, 0})
			return 1, done
		}}
		serves(t, m, r, 1, p, 0, 0, 5)
		if string(all(t, m)) != row {
			t.Errorf("the memory is another one")
		}
		is(t, r, want)
	}
}

// P18.5: a device that serves another of its queues while it is asked.
func TestServeWithinServe(t *testing.T) {
	m, r := working(t, 0, 2)
	give(m, r.Queues[0], 5, 6)
	give(m, r.Queues[1], 7, 8)
	inner := &player{}
	outer := &player{does: func(int, chain.Chain) (uint32, bool) {
		r.Serve(m, 1, inner)
		return 2, true
	}}
	serves(t, m, r, 0, outer, 1, 15, 5, 6)
	if got := lengths(inner); !slices.Equal(got, []uint64{7, 8}) {
		t.Errorf("asked with %v", got)
	}
	used(t, m, r.Queues[0], 2)
	used(t, m, r.Queues[1], 2)
}

// someMemory: what a driver may have laid for queues: chains that may be, and now and then one that may not.
func someMemory(chance *rand.Rand, m *ram.RAM, r *Regs) {
	for i := range r.Queues {
		q := r.Queues[i]
		q.Layout = layout(i)
		m.Store(q.Layout.Avail, 2, uint64(chance.Intn(2)))
		m.Store(q.Layout.Avail+2, 2, uint64(q.Fetched))
		var rows []uint32
		for range chance.Intn(5) {
			rows = append(rows, uint32(1+chance.Intn(9)))
			if chance.Intn(10) == 0 {
				rows[len(rows)-1] = 0
			}
		}
		give(m, q, rows...)
		m.Store(q.Layout.Avail+12, 2, uint64(chance.Intn(6)))
	}
}

// P18.5, held against the model: registers and queues by chance.
func TestServeByModel(t *testing.T) {
	chance := rand.New(rand.NewSource(3))
	asked, broke, told := 0, 0, 0
	for range 10000 {
		m, r := made(t), someRegs(chance)
		for i := range r.Queues {
			r.Queues[i].Layout, r.Queues[i].Ready = layout(i), chance.Intn(5) > 0
		}
		if chance.Intn(5) > 0 {
			r.Bits = r.Bits&^64 | 4
		}
		r.Pending = uint32(chance.Intn(8))
		if len(r.Queues) > 0 && chance.Intn(20) == 0 {
			r.Queues[chance.Intn(len(r.Queues))].Layout = api.Layout{Size: chance.Intn(9), Desc: base, Avail: base, Used: base + uint64(chance.Intn(5))}
		}
		someMemory(chance, m, r)
		n, most := chance.Intn(5)-1, chance.Intn(8)
		does := func(n int, _ chain.Chain) (uint32, bool) { return uint32(n * 3), n < most }
		a, b := &player{does: does}, &player{does: does}
		want, other := copied(r), m.Copy()
		modelServe(other, want, n, b)
		before := r.Pending
		r.Serve(m, n, a)
		is(t, r, want)
		if !ram.Same(m, other) || !slices.Equal(lengths(a), lengths(b)) {
			t.Fatalf("Serve of %d: another memory, or other chains: %v, not %v", n, lengths(a), lengths(b))
		}
		asked += len(a.chains)
		if r.Pending&^before&1 > 0 {
			told++
		}
		if r.Pending&^before&2 > 0 {
			broke++
		}
	}
	if asked < 1000 || broke < 100 || told < 200 {
		t.Errorf("asked %d times, %d broke, %d told", asked, broke, told)
	}
}
