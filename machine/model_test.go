package machine

import (
	"bytes"
	"math/rand"
	"slices"
	"testing"

	"vireo/api"
	"vireo/bus"
	"vireo/core"
	"vireo/disk"
	"vireo/ram"
)

// model is a machine by hand, of the layers below alone.
type model struct {
	m     *ram.RAM
	d     *disk.Disk
	h     *core.Hart
	steps uint64
}

func byHand(t *testing.T, c Config) *model {
	t.Helper()
	m, e := ram.New(c.RAM)
	if e != api.OK {
		t.Fatalf("ram.New: %d", e)
	}
	d, e := disk.New(c.Sectors, c.Locked)
	if e != api.OK {
		t.Fatalf("disk.New: %d", e)
	}
	x := &model{m: m, d: d, h: core.New(bus.New(m, d, c.Name))}
	for i, b := range c.Image {
		m.Store(base+uint64(i), 1, uint64(b))
	}
	d.Fill(c.Disk)
	return x
}

func (x *model) keeps() *kept { return keepsOf(x.steps, *x.h, x.d) }

// do: an event, by the words of the chapter.
func (x *model) do(e api.Event) api.Errno {
	if e.Kind == steps && e.Arg <= 65536 {
		for range e.Arg {
			x.h.Step()
			x.steps++
		}
		return 0
	}
	if e.Kind == ticks {
		x.h.Clint.Now += e.Arg
		return 0
	}
	if e.Kind == inputs && len(e.Data) <= 65536 {
		x.h.Type(e.Data...)
		return 0
	}
	if e.Kind == faults {
		x.d.Fail(e.Arg)
		return 0
	}
	if e.Kind == steps {
		return 1
	}
	if e.Kind == inputs {
		return 2
	}
	return 240
}

// one: of several, any.
func one[T any](chance *rand.Rand, list ...T) T { return list[chance.Intn(len(list))] }

// someEvent: of each kind, of which few may not be.
func someEvent(chance *rand.Rand) api.Event {
	switch chance.Intn(12) {
	case 0, 1, 2, 3:
		return api.Event{Kind: steps, Arg: uint64(chance.Intn(300))}
	case 4:
		return api.Event{Kind: steps, Arg: one[uint64](chance, 0, 1, 2, 3, 3000), Data: pattern(chance.Intn(3), 1)}
	case 5, 6:
		return api.Event{Kind: ticks, Arg: one(chance, 0, 1, 39, 40, 100, chance.Uint64()>>chance.Intn(64))}
	case 7, 8:
		return api.Event{Kind: inputs, Data: pattern(chance.Intn(200), chance.Intn(99)), Arg: chance.Uint64()}
	case 9:
		return api.Event{Kind: inputs, Data: make([]byte, one(chance, 0, 1, 64, 4096, 5000, 65536, 65537))}
	case 10:
		return api.Event{Kind: faults, Arg: one[uint64](chance, 0, 1, 2, 3, 15, ones)}
	}
	return api.Event{Kind: one(chance, 0, 1, 3, 5, -1, 9), Arg: one[uint64](chance, 0, 65537, ones), Data: make([]byte, one(chance, 0, 70000))}
}

// someImage: a program that works on both devices, or such a one into which others have laid what they like, or bytes that are nobody's.
func someImage(t *testing.T, chance *rand.Rand) []byte {
	list := one(chance,
		echo().image(t, handler(t)...), echo().image(t, handler(t)...), receiver().image(t, handler(t)...),
		driver(asked{kind: 0, first: 3, bytes: 512, in: true}, asked{kind: 1, first: 0, bytes: 1024}, asked{kind: 4}, asked{kind: 8, bytes: 20, in: true}).image(t),
		pattern(chance.Intn(size+1), 5), nil)
	if chance.Intn(3) == 0 && len(list) > 0 {
		for range chance.Intn(20) {
			list[chance.Intn(len(list))] = byte(chance.Intn(256))
		}
	}
	return list
}

func someConfig(t *testing.T, chance *rand.Rand) Config {
	c := config(someImage(t, chance))
	c.RAM = one[uint64](chance, size, size, 2*size, 4*size)
	c.Sectors = one[uint64](chance, 1, count, count, 100, 65536)
	c.Locked = chance.Intn(5) == 0
	c.Disk = pattern(chance.Intn(5000), 7)
	c.Name = one(chance, "", "vireo", "a name that is longer than twenty bytes")
	return c
}

// P23.1 to P23.6: machines of many configs to which anything happens, held against what is made by hand.
func TestAgainstAModel(t *testing.T) {
	chance := rand.New(rand.NewSource(23))
	transmitted, served, interrupts := 0, 0, uint64(0)
	for round := range 150 {
		c := someConfig(t, chance)
		m, x := made(t, c), byHand(t, c)
		m.is(t, "a new one", x.keeps())
		for n := range 40 {
			e := someEvent(chance)
			before := m.keeps()
			got, want := m.Do(e), x.do(e)
			if got != want {
				t.Fatalf("round %d: Do of %d, %d, %d bytes: %d, not %d", round, e.Kind, e.Arg, len(e.Data), got, want)
			}
			after := m.keeps()
			if not := after.isNot(x.keeps()); not != "" {
				t.Fatalf("round %d, event %d: %s", round, n, not)
			}
			after.staysBy(t, e.Kind, before)
			if chance.Intn(4) == 0 {
				one, two := m.Served(), x.h.Blk.Log()
				if !slices.Equal(one, two) {
					t.Fatalf("round %d, event %d: %+v were served, not %+v", round, n, one, two)
				}
				served += len(one)
			}
		}
		transmitted += len(m.TTY.Output())
		interrupts += m.X[25] & 0xff
	}
	if transmitted < 1000 || served < 100 || interrupts < 10 {
		t.Errorf("%d bytes were transmitted, %d requests served, %d interrupts taken", transmitted, served, interrupts)
	}
}

// staysBy: an event of that kind has left what P23.6 says that it leaves.
func (k *kept) staysBy(t *testing.T, kind int, before *kept) {
	t.Helper()
	if kind == steps {
		return
	}
	if !bytes.Equal(k.output, before.output) || k.lost != before.lost {
		t.Fatalf("the output has changed by an event of kind %d", kind)
	}
	if !disk.Same(k.d, before.d) || k.requests != before.requests || k.flushes != before.flushes {
		t.Fatalf("the disk has changed by an event of kind %d", kind)
	}
	if kind != inputs && !ram.Same(k.m, before.m) {
		t.Fatalf("the memory has changed by an event of kind %d", kind)
	}
	if k.steps != before.steps || k.hart != before.hart {
		t.Fatalf("the hart has changed by an event of kind %d", kind)
	}
}
