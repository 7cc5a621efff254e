package machine

import (
	"bytes"
	"math"
	"slices"
	"testing"

	"vireo/api"
)

// P23.2: Check of each kind, at the bounds of what it asks for, and at any size of what it doesn't.
func TestCheck(t *testing.T) {
	args := []uint64{0, 1, 2, 65535, 65536, 65537, 1 << 32, 1<<32 + 1, top, ones}
	lengths := []int{0, 1, 4097, 65535, 65536, 65537, 200000}
	kinds := []int{1, 2, 3, 4, 0, 5, 6, 9, 257, 65537, 1<<32 + 1, -1, -2, -3, -4, math.MinInt, math.MinInt + 1, math.MaxInt, math.MaxInt - 1}
	for _, kind := range kinds {
		for _, arg := range args {
			for _, n := range lengths {
				want := api.Errno(0)
				switch {
				case kind < 1 || kind > 4:
					want = 240
				case kind == 1 && arg > 65536:
					want = 1
				case kind == 3 && n > 65536:
					want = 2
				}
				if e := Check(api.Event{Kind: kind, Arg: arg, Data: make([]byte, n)}); e != want {
					t.Errorf("Check of kind %d, %d, %d bytes: %d, not %d", kind, arg, n, e, want)
				}
			}
		}
	}
	if e := Check(api.Event{}); e != 240 {
		t.Errorf("Check of no event: %d", e)
	}
	if e := Check(api.Event{Kind: 3}); e != 0 {
		t.Errorf("Check of no bytes: %d", e)
	}
}

// refused are events that may not be, and the error of each.
var refused = []struct {
	kind int
	arg  uint64
	n    int
	e    api.Errno
}{
	{1, 65537, 0, 1}, {1, 1 << 32, 3, 1}, {1, ones, 70000, 1}, {3, 0, 65537, 2}, {3, 5, 70000, 2}, {3, ones, 200000, 2},
	{0, 0, 0, 240}, {0, 1, 1, 240}, {5, 1, 1, 240}, {-1, 1, 1, 240}, {-3, 70000, 70000, 240}, {math.MinInt, 1, 1, 240}, {math.MaxInt, 1, 1, 240}, {257, 1, 1, 240}, {1<<32 + 1, 1, 0, 240},
}

// P23.2, P2, rule 3: an event that is refused changes nothing, now or later.
func TestWhatIsRefused(t *testing.T) {
	for _, c := range refused {
		m, other := echoes(t), echoes(t)
		for _, x := range []*Machine{m, other} {
			x.does(t, steps, 1500)
			x.does(t, inputs, 0, pattern(100, 2)...)
			x.does(t, faults, 2)
			x.does(t, ticks, 39)
		}
		want := m.keeps()
		e := m.Do(api.Event{Kind: c.kind, Arg: c.arg, Data: make([]byte, c.n)})
		if e != c.e {
			t.Errorf("Do of kind %d, %d, %d bytes: %d, not %d", c.kind, c.arg, c.n, e, c.e)
		}
		m.is(t, "an event that is refused", want)
		for _, x := range []*Machine{m, other} {
			x.does(t, steps, 1000)
			x.does(t, ticks, 1)
			x.does(t, steps, 1000)
		}
		alike(t, "behind an event that is refused", m, other)
	}
}

// P23.2: an event of steps does so many of them, each as the hart's.
func TestDoSteps(t *testing.T) {
	m := echoes(t)
	x := byHand(t, config(echo().image(t, handler(t)...)))
	sum := uint64(0)
	for _, n := range []uint64{0, 1, 0, 2, 3, 10, 100, 1000, 4095, 65535, 0, 65536} {
		m.does(t, steps, n, pattern(int(n%7), 1)...)
		for range n {
			x.h.Step()
			x.steps++
		}
		sum += n
		if m.Steps() != sum || m.CSR.Cycle != sum {
			t.Fatalf("%d steps: %d, %d in all", n, m.Steps(), m.CSR.Cycle)
		}
		m.is(t, "steps", x.keeps())
	}
}

// P23.2: a tick changes the time alone, and a step afterwards tells; at its end it begins anew.
func TestDoTicks(t *testing.T) {
	m := made(t, config(image(t, "jal x0,0")))
	now := uint64(0)
	for _, n := range []uint64{0, 1, 0, 5, 1 << 32, 65537, top, top, ones, 3, ones - 2, 0} {
		want := m.keeps()
		m.does(t, ticks, n, pattern(int(n%3), 1)...)
		now += n
		want.clint.Now = now
		m.is(t, "a tick", want)
		if m.CSR.Time == now && n != 0 {
			t.Errorf("Time is %d ahead of a step", m.CSR.Time)
		}
		m.does(t, steps, 1)
		if m.CSR.Time != now || m.loads(t, clintAt+0xbff8, 8) != now {
			t.Errorf("Time is %d, not %d", m.CSR.Time, now)
		}
	}
	// A time that wraps: what the line hangs on is the time as it is then.
	m.Clint.Now, m.Clint.Cmp = ones, 5
	if m.Lines() != 0x80 {
		t.Fatalf("%#x", m.Lines())
	}
	m.does(t, ticks, 1)
	if m.Clint.Now != 0 || m.Lines() != 0 {
		t.Errorf("the time is %#x, %#x", m.Clint.Now, m.Lines())
	}
	m.does(t, ticks, 5)
	if m.Lines() != 0x80 {
		t.Errorf("the time is %#x, %#x", m.Clint.Now, m.Lines())
	}
}

// P23.2: a tick brings the clock's interrupt, at the time that was laid and not ahead of it: the third of the document's examples.
func TestTheClock(t *testing.T) {
	p := &program{}
	p.put("sd", clintAt+0x4000, 5)
	p.set(0x305, handled)
	p.set(0x304, 0x80)
	p.add("csrrsi x0,0x300,8")
	p.stay()
	m := made(t, config(p.image(t, "addi x1,x1,1", "wfi", "jal x0,-4")))
	m.runs(t, p, "stay")
	for range 5 {
		m.does(t, steps, 3)
		if m.PC != p.at("stay") {
			t.Fatalf("PC %#x at the time %d", m.PC, m.Clint.Now)
		}
		m.does(t, ticks, 1)
	}
	m.does(t, steps, 1)
	if m.PC != handled || m.CSR.Mcause != 0x8000000000000007 || m.CSR.Mepc != p.at("stay") || m.CSR.Mode != 3 || m.CSR.Status&0x88 != 0x80 {
		t.Errorf("PC %#x, %+v", m.PC, m.CSR)
	}
	m.does(t, steps, 3)
	if m.X[1] != 1 || m.Steps() != uint64(p.marks["stay"])+19 {
		t.Errorf("x1 is %d, %d steps", m.X[1], m.Steps())
	}
}

// P23.2: bytes that come without a driver wait, as many as there is room for: the ninth of the document's examples.
func TestDoInput(t *testing.T) {
	for _, n := range []int{0, 1, 2, 4095, 4096, 4097, 5000, 65535, 65536} {
		m := made(t, config(image(t, "jal x0,0")))
		list := pattern(n, 4)
		want := m.keeps()
		m.does(t, inputs, 77, list...)
		want.input, want.dropped = list[:min(n, 4096)], uint64(max(n-4096, 0))
		m.is(t, "bytes that come", want)
		m.does(t, inputs, 0, list...)
		both := slices.Concat(list, list)
		want.input, want.dropped = both[:min(len(both), 4096)], want.dropped+uint64(n-min(n, 4096-len(want.input)))
		m.is(t, "bytes that come again", want)
	}
	m := made(t, config(nil))
	m.does(t, inputs, 0, make([]byte, 5000)...)
	if in := m.TTY.Input(); in.Len() != 4096 || in.Lost() != 904 {
		t.Errorf("%d wait, %d are lost", in.Len(), in.Lost())
	}
	m.does(t, inputs, 0)
	m.does(t, inputs, 0, 1)
	if in := m.TTY.Input(); in.Len() != 4096 || in.Lost() != 905 {
		t.Errorf("%d wait, %d are lost", in.Len(), in.Lost())
	}
}

// receiver: a driver that lays chains to receive, of 3, 10 and 0 bytes, lets the console's interrupt, and waits.
func receiver() *program {
	p := &program{}
	p.device(ttyAt, 4, rxQ, txQ)
	p.desc(rxQ, 0, came, 3, 2, 0)
	p.desc(rxQ, 1, came+100, 4, 3, 2)
	p.desc(rxQ, 2, came+200, 6, 2, 0)
	p.desc(rxQ, 3, came+300, 8, 0, 0)
	p.put("sh", rxQ+availAt+6, 1)
	p.put("sh", rxQ+availAt+8, 3)
	p.lets()
	p.offer(ttyAt, 0, rxQ, 3)
	p.mark("wait")
	p.add("wfi", "jal x0,-4")
	return p
}

// P23.2: bytes that come to a driver that has laid chains: these are filled at once, what is more waits; the interrupt comes with the next step.
func TestDoInputToADriver(t *testing.T) {
	p := receiver()
	m := made(t, config(p.image(t, handler(t)...)))
	m.runs(t, p, "wait")
	m.does(t, steps, 1)
	if !m.Waits || m.X[27] != 0 || m.Lines() != 0 {
		t.Fatalf("it doesn't wait: PC %#x", m.PC)
	}
	want := m.keeps()
	m.does(t, inputs, 0)
	m.is(t, "no byte", want)
	// One byte takes the first chain.
	m.does(t, inputs, 0, 'a')
	want.m.Store(came, 1, 'a')
	want.m.Store(rxQ+usedAt+2, 2, 1)
	want.m.Store(rxQ+usedAt+4, 8, 1<<32)
	want.tty.Pending, want.tty.Queues[0].Fetched, want.tty.Queues[0].Used = 1, 1, 1
	want.plic.High, want.plic.Waits, want.taken = 4, 4, 1
	m.is(t, "a byte", want)
	m.does(t, steps, 100)
	if m.X[27] != 1 || m.X[24] != 0 || !m.Waits || m.Lines() != 0 {
		t.Fatalf("%d interrupts: PC %#x", m.X[27], m.PC)
	}
	// The next ones take the chain of ten bytes, and the one of none as soon as that is done; the last five wait.
	want = m.keeps()
	m.does(t, inputs, 9, []byte("0123456789rests")...)
	want.m.Write(came+100, []byte("0123"))
	want.m.Write(came+200, []byte("456789"))
	want.m.Store(rxQ+usedAt+2, 2, 3)
	want.m.Store(rxQ+usedAt+12, 8, 10<<32|1)
	want.m.Store(rxQ+usedAt+20, 8, 3)
	want.tty.Pending, want.tty.Queues[0].Fetched, want.tty.Queues[0].Used = 1, 3, 3
	want.plic.High, want.plic.Waits, want.taken, want.input = 4, 4, 11, []byte("rests")
	m.is(t, "fifteen bytes", want)
	m.does(t, steps, 100)
	if m.X[27] != 2 || m.X[24] != 0 || !m.Waits {
		t.Errorf("%d interrupts", m.X[27])
	}
	// No chain is there any more.
	want = m.keeps()
	m.does(t, inputs, 0, make([]byte, 65536)...)
	want.input = slices.Concat([]byte("rests"), make([]byte, 4091))
	want.dropped = 65536 - 4091
	m.is(t, "65536 bytes", want)
}

// P23.2: what comes to a device that a hostile driver has laid: it breaks, and the bytes wait.
func TestDoInputToABrokenQueue(t *testing.T) {
	p := receiver()
	m := made(t, config(p.image(t, handler(t)...)))
	m.runs(t, p, "wait")
	// The first chain leads to itself now.
	m.Store(rxQ+8, 8, 3<<32|5)
	want := m.keeps()
	m.does(t, inputs, 0, 1, 2, 3)
	want.input, want.tty.Bits, want.tty.Pending, want.tty.Queues[0].Fetched = []byte{1, 2, 3}, 0x4f, 2, m.TTY.Queues[0].Fetched
	want.plic.High, want.plic.Waits = 4, 4
	m.is(t, "a chain that leads to itself", want)
	m.does(t, inputs, 0, 4)
	want.input = []byte{1, 2, 3, 4}
	m.is(t, "a device that is broken", want)
}

// P23.2: a fault told of the disk changes nothing but which of its requests fails.
func TestDoFault(t *testing.T) {
	m := made(t, config(image(t, "jal x0,0")))
	for _, n := range []uint64{1, 5, 0, 2, 20, 0, 7} {
		want := m.keeps()
		m.does(t, faults, n, pattern(70000, 1)...)
		want.fails = int(n)
		want.d.Fail(n)
		m.is(t, "a fault", want)
	}
	m.does(t, faults, ones)
	if failsAt(m.Disk()) != 0 {
		t.Errorf("a request fails")
	}
	// What was told ahead doesn't count.
	m.does(t, faults, 1)
	m.does(t, faults, 0)
	if e := m.Disk().Flush(); e != 0 {
		t.Errorf("Flush: %d", e)
	}
	m.does(t, faults, 2)
	m.does(t, faults, 1)
	if e, f := m.Disk().Flush(), m.Disk().Flush(); e != 133 || f != 0 {
		t.Errorf("Flush: %d, %d", e, f)
	}
}

// events of each kind, of which all may be.
func events() []api.Event {
	return []api.Event{
		{Kind: 1, Arg: 1400}, {Kind: 3, Data: []byte("one")}, {Kind: 1, Arg: 300}, {Kind: 4, Arg: 1}, {Kind: 3, Data: []byte("two")}, {Kind: 1, Arg: 300},
		{Kind: 2, Arg: 41}, {Kind: 1, Arg: 100}, {Kind: 3, Data: []byte("three")}, {Kind: 1, Arg: 500}, {Kind: 3}, {Kind: 1}, {Kind: 2}, {Kind: 4},
	}
}

// P23.2: Run of events that all may be: it does each, in order, and tells how many.
func TestRun(t *testing.T) {
	m, other := echoes(t), echoes(t)
	list := events()
	for n := range list {
		x, y := echoes(t), echoes(t)
		if done, e := x.Run(list[:n]...); done != n || e != 0 {
			t.Fatalf("Run of %d: %d, %d", n, done, e)
		}
		for _, e := range list[:n] {
			if no := y.Do(e); no != 0 {
				t.Fatalf("Do: %d", no)
			}
		}
		alike(t, "Run", x, y)
	}
	for _, e := range list {
		if done, no := m.Run(e); done != 1 || no != 0 {
			t.Fatalf("Run of one: %d, %d", done, no)
		}
	}
	if done, no := other.Run(list...); done != len(list) || no != 0 {
		t.Fatalf("Run of all: %d, %d", done, no)
	}
	if string(m.TTY.Output()) != "onetwothree" || m.Steps() != 2600 || m.X[25] != 1 || m.Disk().Requests() != 3 {
		t.Errorf("%q, %d steps, x25 %d", m.TTY.Output(), m.Steps(), m.X[25])
	}
	alike(t, "one by one, and all at once", m, other)
}

// P23.2: Run of no event does nothing.
func TestRunOfNone(t *testing.T) {
	m := echoes(t)
	m.does(t, steps, 1000)
	want := m.keeps()
	for _, list := range [][]api.Event{nil, {}} {
		if done, e := m.Run(list...); done != 0 || e != 0 {
			t.Errorf("Run of none: %d, %d", done, e)
		}
		m.is(t, "no event", want)
	}
}

// P23.2: Run with one that is refused, be it the first, one between or the last: those ahead are done, it isn't, and those behind aren't.
func TestRunUpToARefusedOne(t *testing.T) {
	for at := range len(events()) + 1 {
		for _, c := range refused {
			m, other := echoes(t), echoes(t)
			list := slices.Insert(events(), at, api.Event{Kind: c.kind, Arg: c.arg, Data: make([]byte, c.n)})
			if done, e := m.Run(list...); done != at || e != c.e {
				t.Fatalf("Run with the refused %d at %d: %d, %d, not %d", c.kind, at, done, e, c.e)
			}
			other.Run(events()[:at]...)
			alike(t, "up to the one that is refused", m, other)
		}
	}
	// Of two the first one counts.
	m := echoes(t)
	if done, e := m.Run(api.Event{Kind: 2, Arg: 1}, api.Event{Kind: 3, Data: make([]byte, 65537)}, api.Event{Kind: 9}, api.Event{Kind: 2, Arg: 1}); done != 1 || e != 2 || m.Clint.Now != 1 {
		t.Errorf("Run: %d, %d", done, e)
	}
}

// P23.3: Steps behind events of each kind, behind those that are refused, and behind steps that wait or trap.
func TestSteps(t *testing.T) {
	m := made(t, config(image(t, "wfi", "jal x0,-4")))
	for _, c := range []struct {
		kind int
		arg  uint64
		want uint64
	}{{2, 5, 0}, {3, 5, 0}, {4, 5, 0}, {1, 0, 0}, {1, 1, 1}, {9, 5, 1}, {1, 65537, 1}, {1, 65536, 65537}, {2, 7, 65537}, {1, 3, 65540}, {4, 1, 65540}, {3, 0, 65540}} {
		m.Do(api.Event{Kind: c.kind, Arg: c.arg, Data: []byte{1}})
		if m.Steps() != c.want || m.Steps() != c.want {
			t.Errorf("behind %d, %d: %d steps, not %d", c.kind, c.arg, m.Steps(), c.want)
		}
	}
	if !m.Waits || m.CSR.Instret != 1 || m.CSR.Cycle != 65540 {
		t.Errorf("%+v", m.CSR)
	}
	// The hart's own counts may be written, the machine's may not.
	m = made(t, config(image(t, "csrrwi x0,0xb00,9", "csrrwi x0,0xb02,3", "jal x0,-8")))
	m.does(t, steps, 100)
	if m.Steps() != 100 || m.CSR.Cycle == 100 {
		t.Errorf("%d steps, %d", m.Steps(), m.CSR.Cycle)
	}
	// No instruction is there, nor any where the trap leads.
	m = made(t, config(nil))
	m.does(t, steps, 50)
	if m.Steps() != 50 || m.CSR.Instret != 0 {
		t.Errorf("%d steps, %d", m.Steps(), m.CSR.Instret)
	}
}

// P23.3: a step that is told to the machine itself, beside the events, counts too.
func TestAStepByItself(t *testing.T) {
	m, other := echoes(t), echoes(t)
	for range 500 {
		m.Step()
	}
	if m.Steps() != 500 {
		t.Errorf("%d steps", m.Steps())
	}
	other.does(t, steps, 500)
	alike(t, "steps by themselves", m, other)
}

// The chapter's example, and the first of the document.
func TestTheChaptersExample(t *testing.T) {
	m := made(t, Config{RAM: 4096, Sectors: 1, Image: []byte{0x93, 0x00, 0x50, 0x00}})
	m.does(t, steps, 1)
	if m.X[1] != 5 || m.PC != 0x80000004 || m.Steps() != 1 || m.CSR.Instret != 1 {
		t.Errorf("x1 is %d, PC %#x", m.X[1], m.PC)
	}
	other := made(t, Config{RAM: 4096, Sectors: 1, Image: image(t, "addi x1,x0,5")})
	other.does(t, steps, 1)
	alike(t, "the word and the text", m, other)
}

// The second of the document's examples: the word 0 is no instruction, and the hart goes on where its traps lead.
func TestTheWord0(t *testing.T) {
	p := &program{}
	p.set(0x305, handled)
	p.mark("none")
	m := made(t, config(p.image(t, "csrrs x1,0x343,x0", "jal x0,0")))
	m.runs(t, p, "none")
	m.does(t, steps, 1)
	if m.PC != handled || m.CSR.Mcause != 2 || m.CSR.Mtval != 0 || m.CSR.Mepc != p.at("none") {
		t.Errorf("PC %#x, %+v", m.PC, m.CSR)
	}
	m.does(t, steps, 1)
	if m.PC != handled+4 {
		t.Errorf("PC %#x", m.PC)
	}
}

// Its way: what the hart does, and the bus, and the memory, the machine does by their own calls.
func TestWhatTheHartDoes(t *testing.T) {
	m := made(t, config(image(t, "addi x1,x0,5")))
	if !m.Store(base+8, 4, 0x12345678) || m.Store(0, 4, 1) || m.loads(t, base+8, 2) != 0x5678 {
		t.Errorf("Store, Load")
	}
	if w, ok := m.Fetch(base); w != 0x00500093 || !ok {
		t.Errorf("Fetch: %#x", w)
	}
	if part, place := m.Part(ttyAt+8, 4); part != 5 || place != 8 {
		t.Errorf("Part: %d, %d", part, place)
	}
	if m.Type(1, 2, 3) != 3 || !bytes.Equal(m.TTY.Input().Peek(9), []byte{1, 2, 3}) {
		t.Errorf("Type")
	}
	if m.Size() != size || !m.Has(base+size-1, 1) || !m.Write(base+16, []byte{9}) || m.Lines() != 0 {
		t.Errorf("Size, Has, Write, Lines")
	}
	m.Hart.Step()
	if m.X[1] != 5 || m.PC != 0x80000004 {
		t.Errorf("x1 is %d", m.X[1])
	}
}
