package script

import (
	"bytes"
	"fmt"
	"math"
	"reflect"
	"slices"
	"testing"

	"vireo/api"
	"vireo/asm"
	"vireo/clint"
	"vireo/core"
	"vireo/disk"
	"vireo/machine"
	"vireo/plic"
	"vireo/ram"
	"vireo/ring"
	"vireo/vmmio"
)

// Where the parts lie, as the document says.
const (
	base    = 0x80000000
	clintAt = 0x02000000
	plicAt  = 0x0c000000
	blkAt   = 0x10001000
	ttyAt   = 0x10002000
)

const (
	ones  = math.MaxUint64
	top   = uint64(1) << 63
	page  = 4096
	size  = 4 * page // of most tests' memories
	count = 4        // of most tests' disks' sectors
)

// Where drivers lay what is theirs.
const (
	blkQ = base + 0x1000
	rxQ  = base + 0x1400
	txQ  = base + 0x1800
	told = base + 0x2000 // what the console is to transmit
	came = base + 0x2800 // what it received
)

// Of a queue's place.
const (
	availAt = 0x100
	usedAt  = 0x200
)

// pattern: bytes of which those that stand beside one another are unlike.
func pattern(n, from int) []byte {
	list := make([]byte, n)
	for i := range list {
		list[i] = byte((i*7+i/512*31+from)%255 + 1)
	}
	return list
}

// onDisk is what stands on most tests' disks.
var onDisk = pattern(count*512, 0)

// made: a session of a config that may be.
func made(t *testing.T, c machine.Config) *Session {
	t.Helper()
	s, e := New(c)
	if e != api.OK || s == nil || s.Machine == nil {
		t.Fatalf("New: %v, %d", s, e)
	}
	return s
}

// config: most tests', with an image.
func config(image []byte) machine.Config {
	return machine.Config{RAM: size, Sectors: count, Disk: onDisk, Image: image, Name: "a disk"}
}

// image: of lines, each of which is an instruction's.
func image(t *testing.T, lines ...string) []byte {
	t.Helper()
	words, e, n := asm.Program(lines...)
	if e != api.OK {
		t.Fatalf("%q is no instruction", lines[n])
	}
	return asm.Bytes(words...)
}

// does: a session with a program.
func does(t *testing.T, lines ...string) *Session {
	t.Helper()
	return made(t, config(image(t, lines...)))
}

// says: the answer to a line is just this.
func (s *Session) says(t *testing.T, line, want string) {
	t.Helper()
	if got := s.Do(line); got != want {
		t.Errorf("%.80q: %.200q, not %.200q", line, got, want)
	}
}

// each: of lines with their answers, one behind the other.
func (s *Session) each(t *testing.T, list ...[2]string) {
	t.Helper()
	for _, c := range list {
		s.says(t, c[0], c[1])
	}
}

// begins: a driver begins a device, with queues of two entries at these places.
func begins(m *machine.Machine, device uint64, queues ...uint64) {
	for _, c := range [][2]uint64{{0x70, 1}, {0x70, 3}, {0x24, 1}, {0x20, 1}, {0x70, 11}} {
		m.Store(device+c[0], 4, c[1])
	}
	for n, q := range queues {
		for _, c := range [][2]uint64{{0x30, uint64(n)}, {0x38, 2}, {0x80, q}, {0x90, q + availAt}, {0xa0, q + usedAt}, {0x44, 1}} {
			m.Store(device+c[0], 4, c[1])
		}
	}
	m.Store(device+0x70, 4, 15)
}

// transmits: a driver has bytes transmitted, the n-th ones.
func transmits(m *machine.Machine, n uint64, data []byte) {
	m.Write(told, data)
	m.Write(txQ, ring.Bytes(api.Desc{Addr: told, Len: uint32(len(data))}))
	m.Store(txQ+availAt+4+2*((n-1)%2), 2, 0)
	m.Store(txQ+availAt+2, 2, n)
	m.Store(ttyAt+0x50, 4, 1)
}

// asks: a driver asks for a sector, for the n-th time.
func asks(m *machine.Machine, n, sector uint64) {
	m.Store(told, 8, 0)
	m.Store(told+8, 8, sector)
	m.Write(blkQ, ring.Bytes(api.Desc{Addr: told, Len: 16, Flags: 1, Next: 1}))
	m.Write(blkQ+16, ring.Bytes(api.Desc{Addr: came, Len: 513, Flags: 2}))
	m.Store(blkQ+availAt+4+2*((n-1)%2), 2, 0)
	m.Store(blkQ+availAt+2, 2, n)
	m.Store(blkAt+0x50, 4, 0)
}

// lets: the interrupts of both devices reach the machine's mode, and the supervisor's.
func lets(m *machine.Machine) {
	for _, c := range [][2]uint64{{4, 1}, {8, 1}, {0x2000, 6}, {0x2080, 6}} {
		m.Store(plicAt+c[0], 4, c[1])
	}
}

// works: a session whose drivers have done something, and whose hart has, too.
func works(t *testing.T) *Session {
	t.Helper()
	s := does(t, "addi x1,x0,77", "sd x1,-8(x2)", "csrrw x0,0x340,x1", "lr.d x3,(x2)", "jal x0,0")
	s.X[2] = base + 0x3000
	for _, e := range []api.Event{{Kind: 1, Arg: 10}, {Kind: 2, Arg: 99}, {Kind: 3, Data: []byte("some text")}} {
		if no := s.Machine.Do(e); no != api.OK {
			t.Fatalf("%+v: %d", e, no)
		}
	}
	begins(s.Machine, blkAt, blkQ)
	begins(s.Machine, ttyAt, rxQ, txQ)
	lets(s.Machine)
	transmits(s.Machine, 1, []byte("hello\n\x00\xff"))
	asks(s.Machine, 1, 3)
	if string(s.TTY.Output()) != "hello\n\x00\xff" || s.Disk().Requests() != 1 || s.Lines() != 0xa00 {
		t.Fatalf("%q, %d requests, %#x", s.TTY.Output(), s.Disk().Requests(), s.Lines())
	}
	s.Disk().Fail(3)
	return s
}

// kept is all that can be asked of a session, but for what it served, which is there but once.
type kept struct {
	steps    uint64
	hart     core.Hart // without its bus, which is what follows
	m        *ram.RAM
	clint    clint.Clint
	plic     plic.Plic
	blk, tty vmmio.Regs
	d        *disk.Disk
	numbers  [7]uint64
	output   []byte
	input    []byte
}

// regsOf: a copy of registers, that shares nothing with them.
func regsOf(r *vmmio.Regs) vmmio.Regs {
	out := *r
	out.Queues = slices.Clone(out.Queues)
	out.Space = slices.Clone(out.Space)
	return out
}

// failsAt: which request to a disk fails, of the next ones; 0: none of them.
func failsAt(d *disk.Disk) uint64 {
	c := d.Copy()
	for n := range uint64(20) {
		if c.Flush() != api.OK {
			return n + 1
		}
	}
	return 0
}

func keepsOf(m *machine.Machine) *kept {
	h := *m.Hart
	h.Bus = nil
	d, in := m.Disk(), m.TTY.Input()
	return &kept{
		steps: m.Steps(), hart: h, m: m.Copy(), clint: m.Clint, plic: m.Plic, blk: regsOf(m.Blk.Regs), tty: regsOf(m.TTY.Regs), d: d.Copy(),
		numbers: [7]uint64{d.Requests(), d.Flushes(), failsAt(d), m.TTY.Lost(), in.Lost(), in.Taken(), uint64(in.Room())},
		output:  m.TTY.Output(), input: in.Peek(4096),
	}
}

// isNot: in what something isn't as it should be; "" if it is.
func (k *kept) isNot(want *kept) string {
	switch {
	case k.steps != want.steps, k.numbers != want.numbers:
		return fmt.Sprintf("steps and other numbers are %d, %d, not %d, %d", k.steps, k.numbers, want.steps, want.numbers)
	case k.hart != want.hart:
		return fmt.Sprintf("the hart is %+v, not %+v", k.hart, want.hart)
	case !ram.Same(k.m, want.m):
		return fmt.Sprintf("the memory differs at %x", ram.Differ(k.m, want.m, 5))
	case k.clint != want.clint, k.plic != want.plic:
		return fmt.Sprintf("the time's part is %+v, not %+v, or the interrupts'", k.clint, want.clint)
	case !reflect.DeepEqual(k.blk, want.blk), !reflect.DeepEqual(k.tty, want.tty):
		return "a device's registers are others"
	case !disk.Same(k.d, want.d), k.d.Locked() != want.d.Locked():
		return "the disk is another one"
	case !bytes.Equal(k.output, want.output), !bytes.Equal(k.input, want.input):
		return fmt.Sprintf("the console has %.80q, %.80q, not %.80q, %.80q", k.output, k.input, want.output, want.input)
	}
	return ""
}

// is: everything is just so.
func (s *Session) is(t *testing.T, what string, want *kept) {
	t.Helper()
	if not := keepsOf(s.Machine).isNot(want); not != "" {
		t.Fatalf("%.100s: %s", what, not)
	}
}

// P24.3: New with each of machine.New's errors: beside one there is no session.
func TestNewsErrors(t *testing.T) {
	for _, c := range []struct {
		c    machine.Config
		want api.Errno
	}{
		{machine.Config{RAM: 4096, Sectors: 1}, 0},
		{machine.Config{RAM: 8192, Sectors: 65536, Locked: true, Image: make([]byte, 8192), Disk: make([]byte, 5000), Name: "x"}, 0},
		{machine.Config{}, 20},
		{machine.Config{RAM: 0, Sectors: 1}, 20},
		{machine.Config{RAM: 4097, Sectors: 1}, 20},
		{machine.Config{RAM: 1<<28 + 4096, Sectors: 1}, 20},
		{machine.Config{RAM: 4097, Sectors: 0, Image: make([]byte, 5000)}, 20},
		{machine.Config{RAM: 4096, Sectors: 0}, 130},
		{machine.Config{RAM: 4096, Sectors: 65537}, 130},
		{machine.Config{RAM: 4096, Sectors: 65537, Image: make([]byte, 5000)}, 130},
		{machine.Config{RAM: 4096, Sectors: 1, Image: make([]byte, 4097)}, 2},
		{machine.Config{RAM: 4096, Sectors: 1, Image: make([]byte, 4096)}, 0},
	} {
		s, e := New(c.c)
		if e != c.want || (s == nil) != (e != api.OK) {
			t.Errorf("New of %d bytes, %d sectors, an image of %d: %v, %d, not %d", c.c.RAM, c.c.Sectors, len(c.c.Image), s != nil, e, c.want)
		}
	}
}

// P24.3: New: the machine that machine.New makes of that config.
func TestNew(t *testing.T) {
	for _, c := range []machine.Config{
		{RAM: 4096, Sectors: 1},
		{RAM: 8192, Sectors: 65536, Locked: true, Name: "a name that is longer than twenty bytes"},
		{RAM: 65536, Sectors: 3, Image: pattern(5000, 1), Disk: pattern(600, 2), Name: "x"},
	} {
		m, e := machine.New(c)
		if e != api.OK {
			t.Fatalf("machine.New: %d", e)
		}
		s := made(t, c)
		s.is(t, "New", keepsOf(m))
		if len(s.Served()) != 0 || s.Steps() != 0 || s.PC != base {
			t.Errorf("%d steps, PC %#x", s.Steps(), s.PC)
		}
	}
}

// The session does what the machine does.
func TestEmbeds(t *testing.T) {
	s := does(t, "addi x1,x0,5")
	s.Step()
	if s.Machine.Steps() != 1 || s.X[1] != 5 {
		t.Errorf("%d steps", s.Steps())
	}
	s.each(t, [2]string{"reg x1", "0x5"}, [2]string{"pc", "0x80000004"})
}

// The chapter's examples.
func TestExamples(t *testing.T) {
	s := does(t, "addi x1,x0,5")
	s.each(t,
		[2]string{"step 1", "ok"}, [2]string{"reg x1", "0x5"},
		[2]string{"mem 0x80000000 0", `""`}, [2]string{"mem 0x80000000 4", `"\x93\x00P\x00"`},
	)
}
