package core

import (
	"bytes"
	"fmt"
	"math"
	"reflect"
	"slices"
	"strings"
	"testing"

	"vireo/amo"
	"vireo/api"
	"vireo/asm"
	"vireo/bus"
	"vireo/clint"
	"vireo/csr"
	"vireo/disk"
	"vireo/plic"
	"vireo/ram"
	"vireo/vmmio"
)

// Where the parts lie, as the document says.
const (
	base    = 0x80000000
	clintAt = 0x02000000
	plicAt  = 0x0c000000
	blkAt   = 0x10001000
	ttyAt   = 0x10002000
)

const (
	ones   = math.MaxUint64
	top    = uint64(1) << 63
	page   = 4096
	size   = 24 * page   // of a test's memory
	end    = base + size // of it
	sector = 512
	count  = 4 // of a test's disk's sectors
)

// Where a test's hart is, where its traps lead, what it has reserved, and bytes that no program stands in.
const (
	start   = base + 0x400
	machine = base + 0x800 // where the machine's traps lead
	super   = base + 0xc00 // where the supervisor's do
	held    = base + 0x3000
	data    = base + 0x2000
)

// bench: a hart, and what it was made of.
type bench struct {
	m *ram.RAM
	d *disk.Disk
	h *Hart
}

// pattern: bytes none of which is 0, each unlike those beside it and those a page further on.
func pattern(n, from int) []byte {
	list := make([]byte, n)
	for i := range list {
		list[i] = byte((i*7+i/page*31+from)%255 + 1)
	}
	return list
}

// What stands in a test's memory and on its disk, made once.
var (
	inMemory = pattern(size, 100)
	onDisk   = pattern(count*sector, 0)
)

// begun: a hart as it begins, over a memory and a disk with patterns in them.
func begun(t *testing.T) *bench {
	t.Helper()
	m, e := ram.New(size)
	if e != api.OK {
		t.Fatalf("ram.New: %d", e)
	}
	m.Write(base, inMemory)
	d, e := disk.New(count, false)
	if e != api.OK {
		t.Fatalf("disk.New: %d", e)
	}
	d.Fill(onDisk)
	return &bench{m, d, New(bus.New(m, d, "a disk"))}
}

// filled: what a register of that number holds at the beginning of a test.
func filled(n int) uint64 { return 0x0102030405060708 * uint64(n) }

// fresh: one in whose registers something stands.
func fresh(t *testing.T) *bench {
	t.Helper()
	x := begun(t)
	for n := range x.h.X {
		x.h.X[n] = filled(n)
	}
	x.h.PC = start
	x.h.Held = amo.Set{At: held, Len: 8}
	f := &x.h.CSR
	f.Mtvec, f.Stvec = machine, super
	f.Mscratch, f.Mepc, f.Mcause, f.Mtval = 11, 12, 13, 14
	f.Sscratch, f.Sepc, f.Scause, f.Stval = 21, 24, 23, 25
	f.Cycle, f.Instret = 1000, 900
	x.h.Clint.Now, x.h.Clint.Cmp = 77, ones
	return x
}

// kept is all that there is of a hart.
type kept struct {
	hart     Hart // without its bus, which is what follows
	m        *ram.RAM
	clint    clint.Clint
	plic     plic.Plic
	blk, tty vmmio.Regs
	d        *disk.Disk
	output   []byte
	input    []byte
}

// regsOf: a copy of registers, that shares nothing with them.
func regsOf(r *vmmio.Regs) vmmio.Regs {
	out := *r
	out.Queues = slices.Clone(out.Queues)
	out.Space = slices.Clone(out.Space)
	return out
}

func keepsOf(h Hart, b *bus.Bus) *kept {
	h.Bus = nil
	return &kept{
		hart: h, m: b.Copy(), clint: b.Clint, plic: b.Plic, blk: regsOf(b.Blk.Regs), tty: regsOf(b.TTY.Regs),
		d: b.Blk.Disk().Copy(), output: b.TTY.Output(), input: b.TTY.Input().Peek(4096),
	}
}

func (x *bench) keeps() *kept { return keepsOf(*x.h, x.h.Bus) }

// differ: in what two harts aren't alike.
func differ(a, b Hart) string {
	var out []string
	tell := func(name string, a, b any) {
		if a != b {
			out = append(out, fmt.Sprintf("%s %#x, not %#x", name, a, b))
		}
	}
	for n := range a.X {
		tell(asm.Reg(n), a.X[n], b.X[n])
	}
	tell("PC", a.PC, b.PC)
	tell("Held.At", a.Held.At, b.Held.At)
	tell("Held.Len", a.Held.Len, b.Held.Len)
	if a.Waits != b.Waits {
		out = append(out, fmt.Sprintf("Waits %v", a.Waits))
	}
	one, two := reflect.ValueOf(a.CSR), reflect.ValueOf(b.CSR)
	for n := range one.NumField() {
		tell(one.Type().Field(n).Name, one.Field(n).Interface(), two.Field(n).Interface())
	}
	return strings.Join(out, "; ")
}

// isNot: in what something isn't as it should be; "" if it is.
func (k *kept) isNot(want *kept) string {
	switch {
	case k.hart != want.hart:
		return differ(k.hart, want.hart)
	case !ram.Same(k.m, want.m):
		return fmt.Sprintf("the memory differs at %x", ram.Differ(k.m, want.m, 5))
	case k.clint != want.clint:
		return fmt.Sprintf("the time's part is %+v, not %+v", k.clint, want.clint)
	case k.plic != want.plic:
		return fmt.Sprintf("the interrupts' part is %+v, not %+v", k.plic, want.plic)
	case !reflect.DeepEqual(k.blk, want.blk):
		return fmt.Sprintf("the disk's registers are %+v, not %+v", k.blk, want.blk)
	case !reflect.DeepEqual(k.tty, want.tty):
		return fmt.Sprintf("the console's registers are %+v, not %+v", k.tty, want.tty)
	case !disk.Same(k.d, want.d):
		return "the disk has changed"
	case !bytes.Equal(k.output, want.output), !bytes.Equal(k.input, want.input):
		return fmt.Sprintf("the console has %q, %q, not %q, %q", k.output, k.input, want.output, want.input)
	}
	return ""
}

// is: everything is just so.
func (x *bench) is(t *testing.T, what string, want *kept) {
	t.Helper()
	if not := x.keeps().isNot(want); not != "" {
		t.Fatalf("%s: %s", what, not)
	}
}

// begins: what each step does first.
func (k *kept) begins() {
	f := &k.hart.CSR
	f.Lines = (k.clint.Lines() | k.plic.Lines()) & 0xa88
	f.Time = k.clint.Now
	f.Cycle++
}

// done: an instruction was done of which nothing else is told.
func (k *kept) done() {
	k.begins()
	k.hart.Waits = false
	k.hart.PC += 4
	k.hart.CSR.Instret++
}

// enters: a trap is entered, as the chapters 9 and 22 say.
func (k *kept) enters(cause int, value uint64, interrupt bool) {
	f := &k.hart.CSR
	number, list := uint64(cause), f.Medeleg
	if interrupt {
		number, list = number|top, f.Mideleg
	}
	pc, status, vector := k.hart.PC&^3, f.Status, f.Mtvec
	if f.Mode < 3 && list>>cause&1 == 1 {
		f.Scause, f.Sepc, f.Stval, vector = number, pc, value, f.Stvec
		f.Status = status&^0x122 | status>>1&1<<5 | uint64(f.Mode)<<8
		f.Mode = 1
	} else {
		f.Mcause, f.Mepc, f.Mtval = number, pc, value
		f.Status = status&^0x1888 | status>>3&1<<7 | uint64(f.Mode)<<11
		f.Mode = 3
	}
	k.hart.PC = vector &^ 3
	if interrupt && vector&1 == 1 {
		k.hart.PC += 4 * uint64(cause)
	}
	k.hart.Held, k.hart.Waits = amo.Set{}, false
}

// words: of lines, each of which is an instruction's.
func words(t *testing.T, lines ...string) []uint32 {
	t.Helper()
	list, e, n := asm.Program(lines...)
	if e != api.OK {
		t.Fatalf("%q is no instruction", lines[n])
	}
	return list
}

// lay: instructions stand from an address on.
func (x *bench) lay(t *testing.T, at uint64, lines ...string) {
	t.Helper()
	if !x.m.Write(at, asm.Bytes(words(t, lines...)...)) {
		t.Fatalf("at %#x there is no memory", at)
	}
}

// here: an instruction stands where the hart is.
func (x *bench) here(t *testing.T, line string) { t.Helper(); x.lay(t, x.h.PC, line) }

// does: an instruction stands where the hart is, and a step does it: of all that there is nothing has changed but what each step does, and this.
func (x *bench) does(t *testing.T, line string, change func(k *kept)) {
	t.Helper()
	x.here(t, line)
	x.doesThat(t, line, change)
}

// doesThat: likewise, of the instruction that stands there already.
func (x *bench) doesThat(t *testing.T, line string, change func(k *kept)) {
	t.Helper()
	want := x.keeps()
	want.done()
	if change != nil {
		change(want)
	}
	x.h.Step()
	x.is(t, line, want)
}

// traps: an instruction stands where the hart is, and is a trap: nothing changes but by its being entered.
func (x *bench) traps(t *testing.T, line string, cause int, value uint64) {
	t.Helper()
	x.here(t, line)
	x.trapsThere(t, line, cause, value)
}

// trapsThere: likewise, of what stands there already.
func (x *bench) trapsThere(t *testing.T, line string, cause int, value uint64) {
	t.Helper()
	want := x.keeps()
	want.begins()
	want.enters(cause, value, false)
	x.h.Step()
	x.is(t, line, want)
}

// illegal: an instruction that may not be now.
func (x *bench) illegal(t *testing.T, line string) {
	t.Helper()
	x.traps(t, line, 2, uint64(words(t, line)[0]))
}

// holds: n bytes of memory are that.
func (k *kept) holds(at uint64, n int, w uint64) { k.m.Store(at, n, w) }

// P22.1: the bus that it was given, at the beginning of memory, the system registers as they begin, all else zero.
func TestNew(t *testing.T) {
	m, _ := ram.New(page)
	d, _ := disk.New(1, false)
	b := bus.New(m, d, "")
	h := New(b)
	if h == nil || h.Bus != b || h.RAM != m || h.Blk.Disk() != d {
		t.Fatalf("it has another bus")
	}
	if want := (Hart{Bus: b, PC: 0x80000000, CSR: csr.File{Mode: 3}}); *h != want {
		t.Errorf("New: %s", differ(*h, want))
	}
	if b.RAM != m || b.Lines() != 0 || (b.Clint != clint.Clint{Cmp: ones}) || (b.Plic != plic.Plic{}) {
		t.Errorf("the bus has changed")
	}
	if other := New(b); other == h || *other != *h {
		t.Errorf("a second hart is the first, or isn't as it")
	}
}

// The way of this layer: what the bus does the hart does, and what memory does, by their own calls.
func TestWhatTheBusDoes(t *testing.T) {
	x := fresh(t)
	h := x.h
	if !h.Store(data, 4, 0x12345678) || h.Store(0, 4, 1) {
		t.Errorf("Store")
	}
	if w, ok := h.Load(data, 2); w != 0x5678 || !ok {
		t.Errorf("Load: %#x, %v", w, ok)
	}
	if w, ok := h.Load(blkAt, 4); w != 0x74726976 || !ok {
		t.Errorf("Load: %#x, %v", w, ok)
	}
	if w, ok := h.Fetch(data); w != 0x12345678 || !ok {
		t.Errorf("Fetch: %#x, %v", w, ok)
	}
	if part, place := h.Part(ttyAt+8, 4); part != bus.TTYPart || place != 8 {
		t.Errorf("Part: %d, %#x", part, place)
	}
	if h.Type(1, 2, 3) != 3 || h.TTY.Input().Len() != 3 {
		t.Errorf("Type")
	}
	h.Clint.Soft = true
	if h.Lines() != 8 {
		t.Errorf("Lines: %#x", h.Lines())
	}
	if h.Size() != size || !h.Has(end-1, 1) || !h.Write(data, []byte{9}) {
		t.Errorf("Size, Has, Write")
	}
	if list, ok := h.Read(data, 2); !ok || !bytes.Equal(list, []byte{9, 0x56}) {
		t.Errorf("Read: %x", list)
	}
	if m := h.Copy(); m == x.m || !ram.Same(m, x.m) {
		t.Errorf("Copy")
	}
}

// The chapter's example, and the first of the document.
func TestTheChaptersExample(t *testing.T) {
	x := begun(t)
	x.m.Store(base, 4, 0x00500093)
	x.h.Step()
	if x.h.X[1] != 5 || x.h.PC != 0x80000004 || x.h.CSR.Instret != 1 || x.h.CSR.Cycle != 1 {
		t.Errorf("x1 is %d, PC %#x", x.h.X[1], x.h.PC)
	}
}

// The second of the document's examples: the word 0 is no instruction.
func TestTheWord0(t *testing.T) {
	x := begun(t)
	x.m.Store(base, 4, 0)
	x.h.CSR.Mtvec, x.h.CSR.Mtval = 0x80000100, 5
	x.h.Step()
	if f := x.h.CSR; f.Mcause != 2 || f.Mtval != 0 || f.Mepc != base || x.h.PC != 0x80000100 || f.Instret != 0 || f.Cycle != 1 {
		t.Errorf("PC %#x, %+v", x.h.PC, f)
	}
}

// The third of the document's examples: a tick brings the timer's interrupt.
func TestATick(t *testing.T) {
	x := begun(t)
	x.lay(t, base, "addi x1,x1,1", "addi x1,x1,1", "addi x1,x1,1")
	x.h.Clint.Cmp = 5
	x.h.CSR.Mtvec, x.h.CSR.Mie, x.h.CSR.Status = 0x80000100, 0x80, 8
	x.h.Clint.Tick(4)
	x.h.Step()
	x.h.Clint.Tick(1)
	x.h.Step()
	if f := x.h.CSR; x.h.PC != 0x80000100 || f.Mcause != 0x8000000000000007 || f.Mepc != base+4 || x.h.X[1] != 1 || f.Instret != 1 || f.Cycle != 2 || f.Time != 5 {
		t.Errorf("PC %#x, x1 %d, %+v", x.h.PC, x.h.X[1], f)
	}
}
