package machine

import (
	"bytes"
	"math/rand"
	"slices"
	"testing"

	"vireo/api"
	"vireo/disk"
	"vireo/ram"
)

// happening is a list of events of which all may be.
func happening(chance *rand.Rand, n int) []api.Event {
	var list []api.Event
	for len(list) < n {
		if e := someEvent(chance); Check(e) == api.OK {
			list = append(list, e)
		}
	}
	return list
}

// P23.4: two machines with one config, to which the same happens, are alike: behind each event, and at the end.
func TestTwoMachines(t *testing.T) {
	chance := rand.New(rand.NewSource(4))
	for range 30 {
		c := someConfig(t, chance)
		m, other, whole := made(t, c), made(t, c), made(t, c)
		list := happening(chance, 30)
		for _, e := range list {
			if a, b := m.Do(e), other.Do(e); a != b {
				t.Fatalf("Do: %d, %d", a, b)
			}
			// To ask the one changes it in nothing.
			m.keeps()
			m.Disk().Sector(0)
			m.Load(ttyAt, 4)
			m.Lines()
			m.is(t, "the same events", other.keeps())
		}
		whole.Run(list...)
		a, b, d := m.Served(), other.Served(), whole.Served()
		if !slices.Equal(a, b) || !slices.Equal(a, d) {
			t.Fatalf("%+v were served, %+v, and %+v", a, b, d)
		}
		alike(t, "the same events all at once", m, whole)
	}
}

// P23.5: so many steps, told in one event, in two, in many, or with none between.
func TestStepsInSeveralEvents(t *testing.T) {
	for _, all := range []uint64{0, 1, 2, 77, 1500, 3001} {
		for _, cut := range []uint64{0, 1, 2, 76, 77, 1499, 1500, 3000, 3001} {
			if cut > all {
				continue
			}
			m, two, many := echoes(t), echoes(t), echoes(t)
			for _, x := range []*Machine{m, two, many} {
				x.does(t, inputs, 0, pattern(100, 1)...)
				x.does(t, ticks, 40)
				x.does(t, faults, 2)
			}
			m.does(t, steps, all)
			two.Run(api.Event{Kind: steps, Arg: cut}, api.Event{Kind: steps, Arg: all - cut})
			for range all {
				many.does(t, steps, 1)
				many.does(t, steps, 0)
			}
			m.is(t, "steps in two events", two.keeps())
			m.is(t, "steps in many events", many.keeps())
			if m.Steps() != all {
				t.Errorf("%d steps, not %d", m.Steps(), all)
			}
			alike(t, "steps in two and in many events", two, many)
		}
	}
	// More than one event may tell.
	m, other := echoes(t), echoes(t)
	m.Run(api.Event{Kind: steps, Arg: 65536}, api.Event{Kind: steps, Arg: 10000})
	other.Run(api.Event{Kind: steps, Arg: 10000}, api.Event{Kind: steps, Arg: 65536})
	alike(t, "very many steps", m, other)
}

// P23.5: of lists of any events, each of steps cut anywhere.
func TestAnyStepsInSeveralEvents(t *testing.T) {
	chance := rand.New(rand.NewSource(5))
	for range 40 {
		c := someConfig(t, chance)
		m, other := made(t, c), made(t, c)
		for _, e := range happening(chance, 30) {
			m.Do(e)
			if e.Kind != steps {
				other.Do(e)
				continue
			}
			for rest := e.Arg; rest > 0; {
				part := min(rest, uint64(chance.Intn(100)))
				other.does(t, steps, part)
				rest -= part
			}
		}
		alike(t, "steps cut anywhere", m, other)
	}
}

// P23.6: whatever happens but steps changes neither output nor disk; of memory, input alone, and that where the driver laid its chains.
func TestWhatChangesByStepsAlone(t *testing.T) {
	m := echoes(t)
	m.does(t, steps, 1500)
	for range 5 {
		memory, d, out := m.Copy(), m.Disk().Copy(), m.TTY.Output()
		m.does(t, ticks, 41)
		m.does(t, faults, 0)
		m.does(t, faults, 3)
		m.does(t, ticks, ones)
		if !ram.Same(m.RAM, memory) {
			t.Fatalf("ticks and faults changed the memory at %x", ram.Differ(m.RAM, memory, 5))
		}
		list := []byte("some text")
		m.does(t, inputs, 0, list...)
		if !bytes.Equal(m.TTY.Output(), out) || !disk.Same(m.Disk(), d) || m.Disk().Requests() != d.Requests() {
			t.Fatalf("the output or the disk has changed")
		}
		// The bytes stand in the chain that was laid, and it is used: nothing else.
		memory.Write(came, list)
		used := memory.Copy()
		n, _ := used.Load(rxQ+usedAt+2, 2)
		used.Store(rxQ+usedAt+2, 2, n+1)
		used.Store(rxQ+usedAt+4, 8, uint64(len(list))<<32)
		if !ram.Same(m.RAM, used) {
			t.Fatalf("input changed the memory at %x", ram.Differ(m.RAM, used, 5))
		}
		m.does(t, steps, 1000)
		if bytes.Equal(m.TTY.Output(), out) || ram.Same(m.RAM, used) {
			t.Fatalf("steps changed nothing")
		}
	}
	if d := made(t, config(nil)).Disk(); disk.Same(m.Disk(), d) {
		t.Errorf("steps didn't change the disk")
	}
}

// P23.4, P23.6: what happens to one machine changes no other, though both were made of one config.
func TestNeitherChangesTheOther(t *testing.T) {
	c := config(echo().image(t, handler(t)...))
	m, other := made(t, c), made(t, c)
	want := other.keeps()
	m.Run(events()...)
	m.Write(base, pattern(size, 1))
	m.Disk().Fill(pattern(2048, 9))
	m.Disk().Fail(1)
	m.X[5], m.CSR.Mie = 9, 9
	m.Plic.Line(1, true)
	other.is(t, "what happens to another machine", want)
	if len(other.Served()) != 0 || len(m.Served()) != 3 {
		t.Errorf("requests of another machine were served")
	}
	third := made(t, c)
	other.Run(events()...)
	third.Run(events()...)
	alike(t, "a machine that was made behind it", other, third)
}
