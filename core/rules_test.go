package core

import (
	"bytes"
	"math"
	"math/rand"
	"testing"

	"vireo/amo"
	"vireo/api"
	"vireo/bus"
	"vireo/csr"
	"vireo/disk"
	"vireo/plic"
	"vireo/ram"
)

// P1: no bus, or a bus without memory or disk: no step panics, and each is the trap of a fetch.
func TestWithoutAnything(t *testing.T) {
	m, _ := ram.New(page)
	d, _ := disk.New(1, true)
	for i, b := range []*bus.Bus{nil, bus.New(nil, nil, ""), bus.New(nil, d, "a disk"), bus.New(m, nil, "")} {
		h := New(b)
		if h == nil || h.Bus == nil || h.PC != base || h.CSR != (csr.File{Mode: 3}) {
			t.Fatalf("New: %+v", h)
		}
		for n := range uint64(5) {
			h.Step()
			if i == 3 {
				// There the memory's word 0 is no instruction, and Mtvec leads to where nothing is.
				continue
			}
			if h.PC != 0 || h.CSR.Mcause != 1 || h.CSR.Cycle != n+1 || h.CSR.Instret != 0 {
				t.Errorf("PC %#x, %+v", h.PC, h.CSR)
			}
		}
		h.CSR.Mode, h.CSR.Satp = 1, 8<<60|base>>12
		h.Step()
		h.Waits = true
		h.Step()
		h.Load(base, 8)
		h.Store(base, 8, 1)
		h.Fetch(base)
		h.Type(1, 2, 3)
		h.Lines()
		h.Read(base, 1)
		h.Size()
	}
}

// someHart: a hart in a state that no program brings about.
func someHart(chance *rand.Rand, h *Hart) {
	some := func() uint64 {
		list := []uint64{0, 1, 2, ones, top, base, base + 8, end, blkAt, ttyAt, plicAt + 0x200004, clintAt, chance.Uint64(), chance.Uint64()}
		return list[chance.Intn(len(list))]
	}
	for n := range h.X {
		h.X[n] = some()
	}
	h.PC = some()
	if chance.Intn(2) == 0 {
		h.PC = start
	}
	modes := []api.Mode{0, 1, 2, 3, 4, -1, math.MaxInt, math.MinInt}
	h.CSR = csr.File{
		Mode: modes[chance.Intn(len(modes))], Status: some(), Medeleg: some(), Mideleg: some(), Mie: some(), Soft: some(), Lines: some(), Mtvec: some(), Stvec: some(),
		Mepc: some(), Sepc: some(), Satp: some(), Cycle: some(), Instret: some(), Time: some(), Mcounteren: some(), Scounteren: some(),
	}
	h.Held = amo.Set{At: some(), Len: some()}
	h.Waits = chance.Intn(4) == 0
	h.Clint.Soft, h.Clint.Cmp, h.Clint.Now = chance.Intn(2) == 0, some(), some()
	h.Plic = plic.Plic{High: chance.Uint32(), Waits: chance.Uint32(), Serving: chance.Uint32(), Lets: [2]uint32{chance.Uint32(), chance.Uint32()}}
}

// P1: in any state, at any words: each step ends and none panics; P22.4 holds even then.
func TestAnyState(t *testing.T) {
	chance := rand.New(rand.NewSource(4))
	x := fresh(t)
	list := make([]byte, 2*page)
	for n := range 60000 {
		if n%500 == 0 {
			chance.Read(list)
			x.m.Write(base, list)
		}
		someHart(chance, x.h)
		if chance.Intn(3) > 0 {
			w, mask := free(1 + chance.Intn(api.LastOp))
			x.m.Store(start, 4, uint64(w|chance.Uint32()&mask))
		}
		cycle := x.h.CSR.Cycle
		w, _ := x.h.Fetch(start)
		x.h.Step()
		if x.h.X[0] != 0 || x.h.CSR.Cycle != cycle+1 && w>>20 != 0xb00 {
			t.Fatalf("behind %#x: X[0] %#x, Cycle %#x, not %#x", w, x.h.X[0], x.h.CSR.Cycle, cycle+1)
		}
	}
}

// P1: programs of any bytes, that go on for long.
func TestAnyProgram(t *testing.T) {
	chance := rand.New(rand.NewSource(5))
	went := 0
	for range 40 {
		x := fresh(t)
		list := make([]byte, size)
		chance.Read(list)
		for at := 0; at < size; at += 4 {
			// Instructions for the most part, such as go to memory and come back from traps.
			w, mask := free(1 + chance.Intn(api.LastOp))
			w |= chance.Uint32() & mask
			if chance.Intn(8) > 0 {
				copy(list[at:], []byte{byte(w), byte(w >> 8), byte(w >> 16), byte(w >> 24)})
			}
		}
		x.m.Write(base, list)
		for n := range x.h.X[1:] {
			x.h.X[n+1] = base + uint64(chance.Intn(size))&^7
		}
		for n := range 500 {
			if n%10 == 0 {
				x.h.Clint.Tick(chance.Uint64() >> 40)
				x.h.Type(1, 2, 3)
			}
			x.h.Step()
			if x.h.PC%4 != 0 || x.h.X[0] != 0 {
				t.Fatalf("PC %#x, X[0] %#x", x.h.PC, x.h.X[0])
			}
		}
		if x.h.RAM != x.m || x.m.Size() != size {
			t.Fatalf("the memory is another one")
		}
		if x.h.CSR.Instret > 910 {
			went++
		}
	}
	if went < 10 {
		t.Errorf("%d programs went on for long", went)
	}
}

// P22.4: X[0] is 0 behind every step, even if something was laid there from without; what reads it reads 0.
func TestTheFirstRegister(t *testing.T) {
	x := fresh(t)
	x.h.X[0] = 99
	x.here(t, "addi x1,x0,5")
	x.h.Step()
	if x.h.X[0] != 0 || x.h.X[1] != 5 {
		t.Errorf("X[0] %d, X[1] %d", x.h.X[0], x.h.X[1])
	}
	x.h.X[0] = 99
	x.here(t, "ecall")
	x.h.Step()
	if x.h.X[0] != 0 {
		t.Errorf("X[0] %d behind a trap", x.h.X[0])
	}
	x.h.X[0], x.h.Waits = 99, true
	x.h.Step()
	if x.h.X[0] != 0 || !x.h.Waits {
		t.Errorf("X[0] %d behind a step that waits", x.h.X[0])
	}
}

// P2, rule 4: what a step does hangs on what was called before alone: two harts to which the same happens are alike, and asking changes nothing.
func TestTheSameTwice(t *testing.T) {
	one, two := newWalk(t, 9), newWalk(t, 9)
	one.lay()
	two.lay()
	for n := range 400 {
		if n%3 == 0 {
			one.anew()
			two.anew()
		}
		one.happens()
		two.happens()
		one.x.h.Step()
		two.x.h.Step()
		two.x.h.Lines()
		two.x.h.Fetch(base)
		two.x.h.Load(ttyAt, 4)
		two.x.h.Part(base, 4)
		if not := one.x.keeps().isNot(two.x.keeps()); not != "" {
			t.Fatalf("step %d: %s", n, not)
		}
	}
}

// P2, rule 4: New changes nothing of the bus, and keeps it itself, with what comes to it from elsewhere; two harts of their own share nothing.
func TestNewKeepsTheBusItself(t *testing.T) {
	x := fresh(t)
	x.h.Clint.Soft = true
	x.h.Type(1, 2, 3)
	want := x.keeps()
	other := New(x.h.Bus)
	x.is(t, "New", want)
	if other.Bus != x.h.Bus || other.X != [32]uint64{} || other.CSR != csr.Begin() || other.Waits || (other.Held != amo.Set{}) {
		t.Errorf("%+v", other)
	}
	// What one does on the bus the other sees; of registers they have their own.
	x.h.Clint.Soft = false
	x.m.Write(base, []byte{0x93, 0, 0x50, 0})
	other.Step()
	if other.X[1] != 5 || x.h.X[1] != filled(1) || x.h.CSR.Cycle != 1000 {
		t.Errorf("x1 %d, %d", other.X[1], x.h.X[1])
	}
	y, z := fresh(t), fresh(t)
	before := z.keeps()
	y.h.X[5] = data
	y.may(t, "sd x5,0(x5)")
	y.may(t, "wfi")
	y.h.Clint.Tick(5)
	y.h.Step()
	z.is(t, "another hart", before)
}

// P2, rule 3: an instruction that is refused has changed nothing but by its trap: whatever it is, in each mode, of a memory that is watched, too.
func TestWhatIsRefused(t *testing.T) {
	for _, line := range []string{
		"jal x1,2", "jalr x1,x5,2", "beq x1,x1,2", "lb x1,0(x5)", "ld x1,1(x5)", "sd x1,0(x5)", "sb x1,0(x5)", "sh x1,1(x5)", "lr.d x1,(x5)", "sc.d x1,x2,(x5)", "amoadd.w x1,x2,(x5)",
		"csrrw x1,0x7c0,x2", "csrrsi x1,0xc00,1", "ecall", "ebreak",
	} {
		for _, mode := range []api.Mode{0, 1, 3} {
			x := fresh(t)
			x.h.CSR.Mode = mode
			x.h.X[5] = plicAt + 0x200004
			x.h.Store(plicAt+4, 4, 1)
			x.h.Store(plicAt+0x2000, 4, 2)
			x.h.Plic.Line(1, true)
			log := &ram.Log{}
			x.here(t, line)
			x.m.Watch(log)
			want := x.keeps()
			want.begins()
			x.h.Step()
			got := x.keeps()
			if got.hart.PC != machine || len(log.Writes) != 0 || len(log.Reads) != 0 {
				t.Fatalf("%s: PC %#x, %x", line, got.hart.PC, *log)
			}
			want.enters(int(got.hart.CSR.Mcause), got.hart.CSR.Mtval, false)
			if not := got.isNot(want); not != "" {
				t.Errorf("%s: %s", line, not)
			}
		}
	}
}

// P22.3: what instructions put into memory a watched one tells, each once; a fetch and a load are told of nowhere.
func TestWhatIsWatched(t *testing.T) {
	x := fresh(t)
	x.h.X[5] = data
	x.lay(t, start, "sb x1,3(x5)", "ld x2,0(x5)", "amoadd.d x2,x1,(x5)", "lr.w x2,(x5)", "sc.w x2,x1,(x5)", "sc.w x2,x1,(x5)", "amoswap.w x2,x1,(x5)")
	log := &ram.Log{}
	x.m.Watch(log)
	for range 7 {
		x.h.Step()
	}
	want := []api.Span{{At: data + 3, Len: 1}, {At: data, Len: 8}, {At: data, Len: 4}, {At: data, Len: 4}}
	if len(log.Writes) != len(want) || len(log.Reads) != 0 {
		t.Fatalf("%+v", *log)
	}
	for i := range want {
		if log.Writes[i] != want[i] {
			t.Errorf("%+v", log.Writes)
		}
	}
	if list, _ := x.m.Read(data, 4); !bytes.Equal(list, []byte{8, 7, 6, 5}) {
		t.Errorf("%x", list)
	}
}
