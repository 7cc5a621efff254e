package machine

import (
	"bytes"
	"math"
	"math/rand"
	"slices"
	"testing"

	"vireo/api"
	"vireo/inst"
)

// P1: a nil machine, as New answers it beside an error, is none: no call panics, none does anything, and what may not be is refused as ever.
func TestNone(t *testing.T) {
	m, e := New(Config{})
	if m != nil || e != 20 {
		t.Fatalf("New of nothing: %v, %d", m, e)
	}
	for kind := -1; kind < 6; kind++ {
		for _, arg := range []uint64{0, 1, 65536, 65537, ones} {
			e := api.Event{Kind: kind, Arg: arg, Data: []byte{1}}
			if no := m.Do(e); no != Check(e) {
				t.Errorf("Do of %d, %d: %d", kind, arg, no)
			}
		}
	}
	if n, e := m.Run(api.Event{Kind: 1, Arg: 1}, api.Event{Kind: 2}, api.Event{Kind: 7}); n != 2 || e != 240 {
		t.Errorf("Run: %d, %d", n, e)
	}
	if n, e := m.Run(); n != 0 || e != 0 {
		t.Errorf("Run: %d, %d", n, e)
	}
	if m.Steps() != 0 || m.Disk() != nil || len(m.Served()) != 0 {
		t.Errorf("no machine has done something")
	}
}

// P1: any config: New ends, and answers a machine or an error.
func TestAnyConfig(t *testing.T) {
	chance := rand.New(rand.NewSource(1))
	some := func() uint64 {
		return one(chance, 0, 1, 4096, 8192, 65536, 1<<28, 1<<28+4096, top, ones, chance.Uint64()>>chance.Intn(64))
	}
	for range 3000 {
		c := Config{RAM: some(), Sectors: some(), Locked: chance.Intn(2) == 0, Disk: make([]byte, chance.Intn(5000)), Image: make([]byte, chance.Intn(9000)), Name: string(pattern(chance.Intn(40), 1))}
		m, e := New(c)
		if (m == nil) != (e != api.OK) {
			t.Fatalf("New: %v, %d", m != nil, e)
		}
		if m == nil {
			continue
		}
		m.Run(happening(chance, 5)...)
	}
}

// free: an operation's word, and those of its bits that may be anything.
func free(op int) (uint32, uint32) {
	w, _ := inst.Encode(api.Instr{Op: op})
	mask := uint32(0)
	for bit := range 32 {
		if x, e := inst.Decode(w ^ 1<<bit); e == api.OK && x.Op == op {
			mask |= 1 << bit
		}
	}
	return w, mask
}

// P1: programs of any bytes, of any instructions, and events of any kind: each ends and none panics; what P23.6 says holds even then.
func TestAnyProgram(t *testing.T) {
	chance := rand.New(rand.NewSource(2))
	var fixed, mask [api.LastOp + 1]uint32
	for op := range fixed {
		fixed[op], mask[op] = free(op)
	}
	went := 0
	for range 60 {
		list := make([]byte, size)
		chance.Read(list)
		for at := 0; at < size; at += 4 {
			op := 1 + chance.Intn(api.LastOp)
			if w := fixed[op] | chance.Uint32()&mask[op]; chance.Intn(8) > 0 {
				copy(list[at:], []byte{byte(w), byte(w >> 8), byte(w >> 16), byte(w >> 24)})
			}
		}
		// The devices are begun ahead of it, with queues where any bytes are.
		p := &program{}
		p.device(blkAt, 256, blkQ)
		p.device(ttyAt, 128, rxQ, txQ)
		p.put("sw", blkAt+0x50, 0)
		p.put("sw", ttyAt+0x50, 1)
		copy(list, p.image(t))
		c := config(list)
		m := made(t, c)
		for n := range m.X[1:] {
			m.X[n+1] = one[uint64](chance, blkAt, ttyAt, base+uint64(chance.Intn(size))&^7, ones, top)
		}
		m.does(t, steps, uint64(len(p.lines)))
		m.CSR.Mtvec = handled
		for range 30 {
			e := someEvent(chance)
			before := m.keeps()
			m.Do(e)
			m.keeps().staysBy(t, e.Kind, before)
			m.Served()
		}
		if m.Size() != size || m.Disk().Count() != count || m.X[0] != 0 {
			t.Fatalf("another memory, or another disk")
		}
		if m.CSR.Instret > uint64(len(p.lines))+10 {
			went++
		}
	}
	if went < 10 {
		t.Errorf("%d programs went on", went)
	}
}

// P1: chains that a hostile driver lays, of any bytes, and bytes that come to them.
func TestAnyChains(t *testing.T) {
	chance := rand.New(rand.NewSource(3))
	p := receiver()
	list := p.image(t, handler(t)...)
	for range 200 {
		m := made(t, config(list))
		m.runs(t, p, "wait")
		junk := make([]byte, 512)
		chance.Read(junk)
		if chance.Intn(2) == 0 {
			// So that some are chains: the high bytes of addresses, lengths and flags.
			for n := range 4 {
				copy(junk[16*n+2:], []byte{0, 128, 0, 0, 0, 0, byte(chance.Intn(256)), 0, 0, 0, byte(chance.Intn(8)), 0, byte(chance.Intn(4)), 0})
			}
		}
		m.Write(rxQ, junk)
		m.Write(rxQ+availAt, []byte{byte(chance.Intn(2)), 0, byte(chance.Intn(8)), 0, byte(chance.Intn(5)), 0, byte(chance.Intn(5)), 0})
		for range 5 {
			before := m.keeps()
			m.does(t, inputs, 0, pattern(chance.Intn(300), 1)...)
			m.keeps().staysBy(t, inputs, before)
			m.does(t, steps, 50)
		}
	}
}

// P2, rule 4: what New is given may change behind it, and the machine doesn't; and New changes none of it, nor of its spare room.
func TestNewKeepsNothing(t *testing.T) {
	program := echo().image(t, handler(t)...)
	room := append(make([]byte, 0, len(program)+100), program...)
	spare := append(make([]byte, 0, len(onDisk)+100), onDisk...)
	copy(room[len(room):cap(room)], pattern(100, 1))
	copy(spare[len(spare):cap(spare)], pattern(100, 2))
	wantRoom, wantSpare := slices.Clone(room[:cap(room)]), slices.Clone(spare[:cap(spare)])
	c := Config{RAM: size, Sectors: count + 1, Image: room, Disk: spare, Name: "a disk"}
	m := made(t, c)
	other := made(t, Config{RAM: size, Sectors: count + 1, Image: slices.Clone(program), Disk: slices.Clone(onDisk), Name: "a disk"})
	for i := range room[:cap(room)] {
		room[:cap(room)][i] = 0xee
	}
	for i := range spare[:cap(spare)] {
		spare[:cap(spare)][i] = 0xee
	}
	alike(t, "what was handed in has changed", m, other)
	copy(room[:cap(room)], wantRoom)
	copy(spare[:cap(spare)], wantSpare)
	m.Run(events()...)
	other.Run(events()...)
	m.Write(base, make([]byte, size))
	m.Disk().Fill(make([]byte, 4096))
	if !bytes.Equal(room[:cap(room)], wantRoom) || !bytes.Equal(spare[:cap(spare)], wantSpare) {
		t.Errorf("what was handed in is changed by the machine")
	}
}

// P2, rule 4: events are neither changed nor kept, nor the spare room of their bytes.
func TestDoKeepsNothing(t *testing.T) {
	m, other := echoes(t), echoes(t)
	data := append(make([]byte, 0, 50), "some bytes"...)
	list := append(make([]api.Event, 0, 5), api.Event{Kind: inputs, Arg: 5, Data: data}, api.Event{Kind: steps, Arg: 10, Data: data})
	m.Run(list...)
	other.Run(api.Event{Kind: inputs, Data: []byte("some bytes")}, api.Event{Kind: steps, Arg: 10})
	if string(data) != "some bytes" || !bytes.Equal(data[10:50], make([]byte, 40)) {
		t.Errorf("the bytes are %q", data[:50])
	}
	whole := list[:5]
	if whole[0].Kind != inputs || whole[0].Arg != 5 || len(whole[0].Data) != 10 || whole[1].Kind != steps || whole[1].Arg != 10 || whole[2].Kind != 0 || whole[4].Data != nil {
		t.Errorf("the events are %+v", whole)
	}
	copy(data, "other text")
	list[0] = api.Event{}
	m.does(t, steps, 3000)
	other.does(t, steps, 3000)
	alike(t, "bytes that change behind the call", m, other)
	if string(m.TTY.Output()) != "some bytes" {
		t.Errorf("%q", m.TTY.Output())
	}
}

// P2, rule 4: what Served answers is new memory; Disk is the object itself.
func TestWhatIsAnswered(t *testing.T) {
	m, other := echoes(t), echoes(t)
	for _, x := range []*Machine{m, other} {
		x.does(t, steps, 1500)
		x.does(t, inputs, 0, 1, 2, 3)
		x.does(t, steps, 300)
	}
	list := m.Served()
	if len(list) != 1 {
		t.Fatalf("%+v were served", list)
	}
	kept := slices.Clone(list)
	list = append(list, list[0])
	list[0].Sector, list[1].Status = 99, 99
	other.Served()
	for _, x := range []*Machine{m, other} {
		x.does(t, inputs, 0, 4, 5)
		x.does(t, steps, 300)
	}
	second := m.Served()
	if len(second) != 1 || second[0].Sector != 1 || second[0].Status != 0 || kept[0].Sector != 0 || list[0].Sector != 99 {
		t.Errorf("%+v were served, and %+v", kept, second)
	}
	if !slices.Equal(second, other.Served()) {
		t.Errorf("an answer is shared")
	}
	m.Disk().Fill([]byte{9})
	if got, _ := m.Disk().Sector(0); got[0] != 9 || m.Disk() != m.Blk.Disk() {
		t.Errorf("the disk is another one each time")
	}
}

// P1: Check and Do of any event, on a machine that may be at any place.
func TestAnyEvent(t *testing.T) {
	chance := rand.New(rand.NewSource(6))
	m := echoes(t)
	for range 2000 {
		e := api.Event{Kind: one(chance, 0, 2, 3, 4, 5, -1, math.MinInt, math.MaxInt, int(chance.Uint64())), Arg: chance.Uint64() >> chance.Intn(64), Data: pattern(chance.Intn(100), 1)}
		if no := m.Do(e); no != Check(e) || (no == 0) != (e.Kind > 0 && e.Kind < 5) {
			t.Fatalf("Do of %+v: %d", e, no)
		}
	}
	if m.Steps() != 0 {
		t.Errorf("%d steps", m.Steps())
	}
}
