package machine

import (
	"bytes"
	"fmt"
	"math"
	"reflect"
	"slices"
	"strings"
	"testing"

	"vireo/amo"
	"vireo/api"
	"vireo/asm"
	"vireo/bus"
	"vireo/clint"
	"vireo/core"
	"vireo/csr"
	"vireo/disk"
	"vireo/plic"
	"vireo/ram"
	"vireo/vmmio"
)

// Where the parts lie, as the document says.
const (
	base    = 0x80000000
	clintAt = 0x02000000
	plicAt  = 0x0c000000
	blkAt   = 0x10001000
	ttyAt   = 0x10002000
)

// The kinds of events, likewise.
const (
	steps  = 1
	ticks  = 2
	inputs = 3
	faults = 4
)

const (
	ones   = math.MaxUint64
	top    = uint64(1) << 63
	page   = 4096
	size   = 16 * page // of most tests' memories
	sector = 512
	count  = 4 // of most tests' disks' sectors
)

// pattern: bytes none of which is 0, each unlike those beside it and those a page further on.
func pattern(n, from int) []byte {
	list := make([]byte, n)
	for i := range list {
		list[i] = byte((i*7+i/page*31+from)%255 + 1)
	}
	return list
}

// onDisk is what stands on most tests' disks.
var onDisk = pattern(count*sector, 0)

// made: a machine of a config that may be.
func made(t *testing.T, c Config) *Machine {
	t.Helper()
	m, e := New(c)
	if e != api.OK || m == nil {
		t.Fatalf("New: %v, %d", m, e)
	}
	return m
}

// config: most tests', with an image.
func config(image []byte) Config {
	return Config{RAM: size, Sectors: count, Disk: onDisk, Image: image, Name: "a disk"}
}

// image: of lines, each of which is an instruction's.
func image(t *testing.T, lines ...string) []byte {
	t.Helper()
	words, e, n := asm.Program(lines...)
	if e != api.OK {
		t.Fatalf("%q is no instruction", lines[n])
	}
	return asm.Bytes(words...)
}

// does: an event that may be.
func (m *Machine) does(t *testing.T, kind int, arg uint64, data ...byte) {
	t.Helper()
	if e := m.Do(api.Event{Kind: kind, Arg: arg, Data: data}); e != api.OK {
		t.Fatalf("Do of %d, %d: %d", kind, arg, e)
	}
}

// loads: what n bytes of the memory hold.
func (m *Machine) loads(t *testing.T, at uint64, n int) uint64 {
	t.Helper()
	w, ok := m.Load(at, n)
	if !ok {
		t.Fatalf("Load(%#x, %d): false", at, n)
	}
	return w
}

// reads: n bytes of the memory.
func (m *Machine) reads(t *testing.T, at, n uint64) []byte {
	t.Helper()
	list, ok := m.Read(at, n)
	if !ok {
		t.Fatalf("Read(%#x, %d): false", at, n)
	}
	return list
}

// kept is all that can be asked of a machine, but for what it served, which is there but once.
type kept struct {
	steps    uint64
	hart     core.Hart // without its bus, which is what follows
	m        *ram.RAM
	clint    clint.Clint
	plic     plic.Plic
	blk, tty vmmio.Regs
	d        *disk.Disk
	locked   bool
	requests uint64
	flushes  uint64
	fails    int    // the number of the request that fails
	output   []byte // what the console transmitted, and what of it wasn't kept
	lost     uint64
	input    []byte // what waits for the console to receive, what didn't come, what went
	dropped  uint64
	taken    uint64
}

// regsOf: a copy of registers, that shares nothing with them.
func regsOf(r *vmmio.Regs) vmmio.Regs {
	out := *r
	out.Queues = slices.Clone(out.Queues)
	out.Space = slices.Clone(out.Space)
	return out
}

// failsAt: which request to a disk fails, of the next ones; 0: none of them.
func failsAt(d *disk.Disk) int {
	c := d.Copy()
	for n := range 20 {
		if c.Flush() != api.OK {
			return n + 1
		}
	}
	return 0
}

func keepsOf(done uint64, h core.Hart, d *disk.Disk) *kept {
	b := h.Bus
	h.Bus = nil
	in := b.TTY.Input()
	return &kept{
		steps: done, hart: h, m: b.Copy(), clint: b.Clint, plic: b.Plic, blk: regsOf(b.Blk.Regs), tty: regsOf(b.TTY.Regs),
		d: d.Copy(), locked: d.Locked(), requests: d.Requests(), flushes: d.Flushes(), fails: failsAt(d),
		output: b.TTY.Output(), lost: b.TTY.Lost(), input: in.Peek(4096), dropped: in.Lost(), taken: in.Taken(),
	}
}

func (m *Machine) keeps() *kept { return keepsOf(m.Steps(), *m.Hart, m.Disk()) }

// differ: in what two harts aren't alike.
func differ(a, b core.Hart) string {
	var out []string
	tell := func(name string, a, b any) {
		if a != b {
			out = append(out, fmt.Sprintf("%s %#x, not %#x", name, a, b))
		}
	}
	for n := range a.X {
		tell(asm.Reg(n), a.X[n], b.X[n])
	}
	tell("PC", a.PC, b.PC)
	tell("Held.At", a.Held.At, b.Held.At)
	tell("Held.Len", a.Held.Len, b.Held.Len)
	if a.Waits != b.Waits {
		out = append(out, fmt.Sprintf("Waits %v", a.Waits))
	}
	one, two := reflect.ValueOf(a.CSR), reflect.ValueOf(b.CSR)
	for n := range one.NumField() {
		tell(one.Type().Field(n).Name, one.Field(n).Interface(), two.Field(n).Interface())
	}
	return strings.Join(out, "; ")
}

// isNot: in what something isn't as it should be; "" if it is.
func (k *kept) isNot(want *kept) string {
	numbers := func(k *kept) [7]uint64 {
		return [7]uint64{k.steps, k.requests, k.flushes, uint64(k.fails), k.lost, k.dropped, k.taken}
	}
	switch {
	case numbers(k) != numbers(want):
		return fmt.Sprintf("steps, requests, flushes, the failing one, lost, dropped, taken are %d, not %d", numbers(k), numbers(want))
	case k.hart != want.hart:
		return differ(k.hart, want.hart)
	case !ram.Same(k.m, want.m):
		return fmt.Sprintf("the memory differs at %x", ram.Differ(k.m, want.m, 5))
	case k.clint != want.clint:
		return fmt.Sprintf("the time's part is %+v, not %+v", k.clint, want.clint)
	case k.plic != want.plic:
		return fmt.Sprintf("the interrupts' part is %+v, not %+v", k.plic, want.plic)
	case !reflect.DeepEqual(k.blk, want.blk):
		return fmt.Sprintf("the disk's registers are %+v, not %+v", k.blk, want.blk)
	case !reflect.DeepEqual(k.tty, want.tty):
		return fmt.Sprintf("the console's registers are %+v, not %+v", k.tty, want.tty)
	case !disk.Same(k.d, want.d), k.locked != want.locked:
		return "the disk is another one"
	case !bytes.Equal(k.output, want.output), !bytes.Equal(k.input, want.input):
		return fmt.Sprintf("the console has %.80q, %.80q, not %.80q, %.80q", k.output, k.input, want.output, want.input)
	}
	return ""
}

// is: everything is just so.
func (m *Machine) is(t *testing.T, what string, want *kept) {
	t.Helper()
	if not := m.keeps().isNot(want); not != "" {
		t.Fatalf("%s: %s", what, not)
	}
}

// alike: two machines are, and what they served since they were asked is.
func alike(t *testing.T, what string, a, b *Machine) {
	t.Helper()
	a.is(t, what, b.keeps())
	if x, y := a.Served(), b.Served(); !slices.Equal(x, y) {
		t.Fatalf("%s: %+v were served, and %+v", what, x, y)
	}
}

// The layers' own errors, with the limits of the chapters 2 and 13.
var sizes = []struct {
	bytes uint64
	e     api.Errno
}{
	{0, 20}, {1, 20}, {2048, 20}, {4095, 20}, {4096, 0}, {4097, 20}, {8191, 20}, {8192, 0}, {12288, 0}, {65536, 0}, {100000, 20},
	{1 << 28, 0}, {1<<28 - 1, 20}, {1<<28 + 1, 20}, {1<<28 + 4096, 20}, {1 << 29, 20}, {1 << 32, 20}, {1<<32 + 4096, 20}, {top, 20}, {ones - 4095, 20}, {ones, 20},
}

var disks = []struct {
	sectors uint64
	e       api.Errno
}{{0, 130}, {1, 0}, {2, 0}, {65535, 0}, {65536, 0}, {65537, 130}, {1 << 32, 130}, {1<<32 + 1, 130}, {top, 130}, {ones, 130}}

// P23.1: New with each of its errors, and with none: which comes first, and that beside one there is no machine.
func TestNewsErrors(t *testing.T) {
	for _, r := range sizes {
		for _, s := range disks {
			for _, locked := range []bool{false, true} {
				for _, n := range []uint64{0, 1, 4096, 4097, 70000} {
					want := r.e
					if want == api.OK {
						want = s.e
					}
					if want == api.OK && n > r.bytes {
						want = 2
					}
					m, e := New(Config{RAM: r.bytes, Sectors: s.sectors, Locked: locked, Image: make([]byte, n), Disk: []byte{1}, Name: "x"})
					if e != want || (m == nil) != (want != api.OK) {
						t.Errorf("New of %d bytes, %d sectors, %v, an image of %d: %v, %d, not %d", r.bytes, s.sectors, locked, n, m != nil, e, want)
					}
					if m != nil && (m.Size() != r.bytes || m.Disk().Count() != s.sectors || m.Disk().Locked() != locked) {
						t.Errorf("New of %d bytes, %d sectors, %v: %d, %d, %v", r.bytes, s.sectors, locked, m.Size(), m.Disk().Count(), m.Disk().Locked())
					}
				}
			}
		}
	}
}

// P23.1: the image stands from the beginning of memory on, the memory behind it is 0; one byte more than there is room for is an error.
func TestImage(t *testing.T) {
	for _, memory := range []uint64{4096, 8192, 12288} {
		for _, n := range []uint64{0, 1, 2, 3, 4, 7, 4095, 4096, 4097, 8191, 8192, 8193, 12287, 12288, 12289, 70000} {
			list := pattern(int(n), 3)
			m, e := New(Config{RAM: memory, Sectors: 1, Image: list})
			if n > memory {
				if m != nil || e != 2 {
					t.Errorf("an image of %d in a memory of %d: %d", n, memory, e)
				}
				continue
			}
			if e != api.OK {
				t.Fatalf("an image of %d in a memory of %d: %d", n, memory, e)
			}
			want := append(list, make([]byte, memory-n)...)
			if got := m.reads(t, 0x80000000, memory); !bytes.Equal(got, want) {
				t.Errorf("an image of %d in a memory of %d: not just it stands there", n, memory)
			}
		}
	}
}

// sectorsOf: all that stands on a disk.
func sectorsOf(d *disk.Disk) []byte {
	var list []byte
	for n := range d.Count() {
		one, _ := d.Sector(n)
		list = append(list, one...)
	}
	return list
}

// P23.1: what stands on the disk: as much as there is room for, 0 behind it; that is no request; locked or not.
func TestDisk(t *testing.T) {
	for _, locked := range []bool{false, true} {
		for _, sectors := range []uint64{1, 2, 5} {
			for _, n := range []int{0, 1, 511, 512, 513, 1024, 1025, 2559, 2560, 2561, 100000} {
				list := pattern(n, 9)
				m := made(t, Config{RAM: 4096, Sectors: sectors, Locked: locked, Disk: list})
				want := make([]byte, sectors*512)
				copy(want, list)
				d := m.Disk()
				if got := sectorsOf(d); !bytes.Equal(got, want) {
					t.Errorf("%d bytes on %d sectors: not just they stand there", n, sectors)
				}
				if d.Requests() != 0 || d.Flushes() != 0 || failsAt(d) != 0 || d.Locked() != locked || d.Count() != sectors {
					t.Errorf("%d bytes on %d sectors: %d requests", n, sectors, d.Requests())
				}
				// What may not be written is refused, and the device says so.
				if e := d.Write(0, make([]byte, 512)); (e == 132) != locked {
					t.Errorf("locked %v: Write: %d", locked, e)
				}
				if m.Blk.Offered>>5&1 == 1 != locked {
					t.Errorf("locked %v: the device offers %#x", locked, m.Blk.Offered)
				}
				if m.loads(t, blkAt+0x100, 8) != sectors {
					t.Errorf("the device tells another number of sectors")
				}
			}
		}
	}
}

// P23.1: a machine that begins: its hart as core.New makes it, its bus as bus.New, of the memory and the disk alone.
func TestNew(t *testing.T) {
	for _, c := range []Config{
		{RAM: 4096, Sectors: 1},
		{RAM: 8192, Sectors: 65536, Locked: true, Name: "a name that is longer than twenty bytes"},
		{RAM: 65536, Sectors: 3, Image: pattern(5000, 1), Disk: pattern(600, 2), Name: "x"},
	} {
		m := made(t, c)
		if m.Hart == nil || m.Bus == nil || m.RAM == nil || m.Disk() == nil || m.Disk() != m.Blk.Disk() {
			t.Fatalf("%+v", m)
		}
		if want := (core.Hart{Bus: m.Bus, PC: 0x80000000, CSR: csr.File{Mode: 3}}); *m.Hart != want {
			t.Errorf("the hart: %s", differ(*m.Hart, want))
		}
		if m.Steps() != 0 || len(m.Served()) != 0 || (m.Held != amo.Set{}) || m.Waits || m.Lines() != 0 {
			t.Errorf("%d steps", m.Steps())
		}
		memory, _ := ram.New(c.RAM)
		memory.Write(base, c.Image)
		d, _ := disk.New(c.Sectors, c.Locked)
		d.Fill(c.Disk)
		m.is(t, "New", keepsOf(0, *core.New(bus.New(memory, d, c.Name)), d))
	}
}

// P23.1: its bus leads to just these: what the devices read and write is its own memory.
func TestWhereTheBusLeads(t *testing.T) {
	m := made(t, config(nil))
	for _, c := range []struct {
		at, want uint64
		n        int
	}{{blkAt, 0x74726976, 4}, {blkAt + 8, 2, 4}, {ttyAt + 8, 3, 4}, {ttyAt, 0x74726976, 4}, {blkAt + 0x100, count, 8}, {clintAt + 0x4000, ones, 8}, {clintAt + 0xbff8, 0, 8}, {plicAt + 4, 0, 4}, {base, 0, 8}, {base + size - 8, 0, 8}} {
		if w := m.loads(t, c.at, c.n); w != c.want {
			t.Errorf("at %#x: %#x, not %#x", c.at, w, c.want)
		}
	}
	for _, at := range []uint64{0, base - 8, base + size - 7, base + size, 0x10003000} {
		if _, ok := m.Load(at, 8); ok {
			t.Errorf("at %#x there is something", at)
		}
	}
}
