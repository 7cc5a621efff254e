package core

import (
	"bytes"
	"fmt"
	"strings"
	"testing"

	"vireo/api"
)

// Where a driver's queue and its request stand, from the beginning of memory on.
const (
	descs  = base + 0x4000
	avail  = base + 0x4800
	used   = base + 0x4c00
	begins = base + 0x5000
	ends   = base + 0x5800
	bytes0 = base + 0x6000
)

// program: instructions that stand one behind the other, and which of them are looked at.
type program struct {
	lines []string
	marks map[string]int
}

func (p *program) add(lines ...string) { p.lines = append(p.lines, lines...) }

// mark: the next instruction has a name.
func (p *program) mark(name string) {
	if p.marks == nil {
		p.marks = map[string]int{}
	}
	p.marks[name] = len(p.lines)
}

// at: where the instruction of that name stands.
func (p *program) at(from uint64, name string) uint64 { return from + 4*uint64(p.marks[name]) }

// write: a number, by x5, into a device's register of four bytes.
func (p *program) write(device string, at, n int) {
	p.add(fmt.Sprintf("addi x5,x0,%d", n), fmt.Sprintf("sw x5,%d(%s)", at, device))
}

// driver: finds the disk in x11, lays its queue, asks for a sector, and waits; x10 is base, x12 the Plic.
func driver(ie, status, bit string, context int) *program {
	p := &program{}
	p.add("addi x10,x0,1", "slli x10,x10,31", "lui x11,65537", "lui x12,49152")
	// The device is the one that it should be, else the program ends here.
	p.add("lwu x5,0(x11)", "lui x6,476967", "addi x6,x6,-1674", "bne x5,x6,0")
	p.write("x11", 0x70, 1)
	p.write("x11", 0x70, 3)
	p.write("x11", 0x24, 1)
	p.write("x11", 0x20, 1)
	p.write("x11", 0x70, 11)
	p.add("lw x6,0x70(x11)", "bne x5,x6,0")
	p.write("x11", 0x30, 0)
	p.write("x11", 0x38, 8)
	p.add("lui x7,4", "add x7,x7,x10", "sw x7,0x80(x11)") // the descriptors
	p.add("addi x8,x7,2047", "addi x8,x8,1", "sw x8,0x90(x11)")
	p.add("addi x9,x8,1024", "sw x9,0xa0(x11)")
	p.write("x11", 0x44, 1)
	p.write("x11", 0x70, 15)
	// The request: of kind 0, the sector 3; what was in memory is gone.
	p.add("lui x13,5", "add x13,x13,x10", "sd x0,0(x13)", "addi x5,x0,3", "sd x5,8(x13)")
	p.add("sd x0,0(x8)", "sd x0,0(x9)")
	// Three descriptors: 16 bytes that are read, a sector and a byte that are written.
	p.add("sd x13,0(x7)", "lui x5,16", "addi x5,x5,1", "slli x5,x5,32", "addi x5,x5,16", "sd x5,8(x7)")
	p.add("lui x6,6", "add x6,x6,x10", "sd x6,16(x7)", "lui x5,32", "addi x5,x5,3", "slli x5,x5,32", "addi x5,x5,512", "sd x5,24(x7)")
	p.add("addi x6,x13,2047", "addi x6,x6,1", "sd x6,32(x7)", "addi x5,x0,2", "slli x5,x5,32", "addi x5,x5,1", "sd x5,40(x7)")
	p.add("addi x5,x0,99", "sb x5,0(x6)")
	// It is offered: the head 0, one chain in all.
	p.add("sh x0,4(x8)", "addi x5,x0,1", "fence x0,x0,0", "sh x5,2(x8)")
	// The interrupt is let: by the Plic, by mie, by mstatus.
	p.add("sw x5,4(x12)", "lui x6,2", "add x6,x6,x12", "addi x5,x0,2", fmt.Sprintf("sw x5,%d(x6)", 0x80*context))
	p.add("addi x5,x0,1", "slli x5,x5,"+bit, "csrrs x0,"+ie+",x5", "csrrsi x0,"+status)
	p.mark("notify")
	p.add("sw x0,0x50(x11)")
	p.mark("wait")
	p.add("wfi")
	p.mark("loop")
	p.add("jal x0,-4")
	return p
}

// handler: claims, acknowledges, is done, and comes back; x14 is what was claimed.
func handler(back string, context int) *program {
	p := &program{}
	p.add("lui x13,49664")
	if context == 1 {
		p.add("lui x6,1", "add x13,x13,x6")
	}
	p.add("lw x14,4(x13)", "lw x5,0x60(x11)", "sw x5,0x64(x11)")
	p.mark("done")
	p.add("sw x14,4(x13)", "addi x15,x15,1", back)
	return p
}

// P22.1 to P22.3: a program of a driver has the disk serve a request, step by step, up to its interrupt: in the machine's mode, and in the supervisor's behind tables.
func TestADriver(t *testing.T) {
	for context := range 2 {
		x := fresh(t)
		p, q := driver("0x304", "0x300,8", "11", 0), handler("mret", 0)
		cause, lines, vector := uint64(11), uint64(0x800), uint64(machine)
		if context == 1 {
			p, q = driver("0x104", "0x100,2", "9", 1), handler("sret", 1)
			cause, lines, vector = 9, 0x200, super
			x.tables(1)
			x.h.CSR.Mideleg = 0x200
			for n := range uint64(24) {
				x.maps(n, base+n*page, "vrwxad")
			}
			// The devices by pages of a giga each, of which the first has all of theirs.
			x.m.Store(root, 8, entry(0, "vrwad"))
		}
		x.lay(t, start, p.lines...)
		x.lay(t, vector, q.lines...)
		x.h.X[15] = 0
		steps := uint64(0)
		for x.h.PC != p.at(start, "notify") {
			pc := x.h.PC
			x.h.Step()
			steps++
			if x.h.PC != pc+4 || x.h.CSR.Instret != 900+steps || x.h.CSR.Cycle != 1000+steps || x.h.CSR.Lines != 0 {
				t.Fatalf("behind %q: PC %#x, %+v", p.lines[(pc-start)/4], x.h.PC, x.h.CSR)
			}
		}
		if !x.h.Blk.Live() || x.h.Plic.Waits != 0 || int(steps) != p.marks["notify"] {
			t.Fatalf("the disk isn't live; %d steps", steps)
		}
		// All at once by the store that tells of the queue: the sector, the end, what is used, and the line.
		want := x.keeps()
		want.done()
		want.m.Write(bytes0, onDisk[3*sector:])
		want.holds(ends, 1, 0)
		want.holds(used+2, 2, 1)
		want.holds(used+4, 8, 513<<32)
		want.plic.High, want.plic.Waits = 2, 2
		want.blk.Pending = 1
		want.blk.Queues[0].Fetched, want.blk.Queues[0].Used = 1, 1
		x.h.Step()
		x.is(t, "the store that tells", want)
		if log := x.h.Blk.Log(); len(log) != 1 || log[0].Sector != 3 {
			t.Fatalf("%+v was served", log)
		}
		// The next step enters.
		want = x.keeps()
		want.begins()
		want.enters(int(cause), 0, true)
		x.h.Step()
		x.is(t, "the interrupt", want)
		f := &x.h.CSR
		if x.h.PC != vector || f.Lines != lines || (context == 0 && (f.Mcause != top+11 || f.Mepc != p.at(start, "wait"))) || (context == 1 && (f.Scause != top+9 || f.Sepc != p.at(start, "wait"))) {
			t.Fatalf("PC %#x, %+v", x.h.PC, f)
		}
		for x.h.PC != p.at(start, "wait") {
			x.h.Step()
			if f.Cycle != f.Instret+101 {
				t.Fatalf("a second trap: %+v", f)
			}
		}
		if x.h.X[14] != 1 || x.h.X[15] != 1 || x.h.Blk.Pending != 0 || x.h.Plic.Waits != 0 || x.h.Plic.Serving != 0 || x.h.Plic.High != 0 {
			t.Fatalf("x14 %d, x15 %d, %+v", x.h.X[14], x.h.X[15], x.h.Plic)
		}
		x.doesThat(t, "wfi", func(k *kept) { k.hart.Waits = true })
		for range 5 {
			x.waitsOn(t, "nothing more comes")
		}
		if list, _ := x.m.Read(bytes0, sector); !bytes.Equal(list, onDisk[3*sector:]) {
			t.Errorf("%.40x was read", list)
		}
	}
}

// P22.1, P22.3: bytes that come wake a hart that waits for the console.
func TestTheConsoleWakes(t *testing.T) {
	x := fresh(t)
	// The console's queue, by which it receives, and the Plic, are laid from without.
	for _, p := range [][2]uint64{{0x70, 3}, {0x24, 1}, {0x20, 1}, {0x70, 11}, {0x30, 0}, {0x38, 8}, {0x80, descs}, {0x90, avail}, {0xa0, used}, {0x44, 1}, {0x70, 15}} {
		x.h.Store(ttyAt+p[0], 4, p[1])
	}
	x.m.Write(avail, []byte{0, 0, 1, 0, 0, 0})
	x.m.Write(used, make([]byte, 64))
	x.m.Store(descs, 8, bytes0)
	x.m.Store(descs+8, 8, 2<<32|16)
	x.h.Store(ttyAt+0x50, 4, 0)
	x.h.Store(plicAt+8, 4, 1)
	x.h.Store(plicAt+0x2000, 4, 4)
	x.h.CSR.Mie = 0x800
	x.does(t, "wfi", func(k *kept) { k.hart.Waits = true })
	x.waitsOn(t, "nobody types")
	if x.h.Type([]byte("hello")...) != 5 {
		t.Fatalf("Type")
	}
	x.h.X[5] = bytes0
	x.does(t, "ld x1,0(x5)", func(k *kept) {
		k.hart.X[1], _ = k.m.Load(bytes0, 8)
		if k.hart.X[1]&(1<<40-1) != 0x6f6c6c6568 {
			t.Errorf("%#x stands there", k.hart.X[1])
		}
	})
}

// P22.1 to P22.3: a program in the user's mode behind tables leaves its page: the machine's program begins it, and is told how it ended.
func TestAUsersProgram(t *testing.T) {
	for _, c := range []struct {
		line  string // the last one of the user's
		cause uint64
		value uint64
	}{
		{"sd x1,0(x2)", 15, base + 9*page},
		{"ld x1,0(x2)", 13, base + 9*page},
		{"jalr x1,x2,0", 12, base + 9*page},
		{"ld x1,-8(x3)", 13, base + 8*page - 8},
		{"sd x1,-8(x3)", 15, base + 8*page - 8},
		{"amoswap.d x1,x1,(x2)", 15, base + 9*page},
		{"lr.d x1,(x2)", 13, base + 9*page},
		{"sw x1,1(x2)", 6, base + 9*page + 1},
		{"ecall", 8, 0},
		{"csrrs x1,0x300,x0", 2, 0x300020f3},
		{"mret", 2, 0x30200073},
	} {
		x := fresh(t)
		// The machine lays three tables in pages from x10 on, of which the last lets the user have the page 8, which is at data.
		x.m.Write(root, make([]byte, 3*page))
		x.lay(t, start,
			"addi x10,x0,1", "slli x10,x10,31", "lui x5,8", "add x11,x10,x5", "lui x6,1", "add x12,x11,x6", "add x13,x12,x6",
			"srli x5,x12,2", "ori x5,x5,1", "sd x5,16(x11)",
			"srli x5,x13,2", "ori x5,x5,1", "sd x5,0(x12)",
			"lui x5,2", "add x5,x5,x10", "srli x5,x5,2", "ori x5,x5,223", "sd x5,64(x13)",
			"addi x5,x0,8", "slli x5,x5,60", "srli x6,x11,12", "or x5,x5,x6", "csrrw x0,0x180,x5", "sfence.vma x0,x0",
			"lui x5,8", "add x5,x5,x10", "csrrw x0,0x341,x5", "mret")
		x.h.CSR.Medeleg = 0
		x.lay(t, data, "auipc x3,0", "lui x4,1", "add x2,x3,x4", "addi x1,x0,77", "sd x1,-8(x2)", "ld x4,-8(x2)", c.line)
		for range 28 {
			x.h.Step()
		}
		if x.h.CSR.Mode != api.User || x.h.PC != base+8*page || x.h.CSR.Instret != 928 {
			t.Fatalf("PC %#x, %+v", x.h.PC, x.h.CSR)
		}
		for range 6 {
			x.h.Step()
		}
		if w, _ := x.m.Load(data+page-8, 8); w != 77 || x.h.X[4] != 77 || x.h.X[2] != base+9*page {
			t.Fatalf("%d is stored, %d loaded", w, x.h.X[4])
		}
		x.h.Step()
		if strings.HasPrefix(c.line, "jalr") {
			x.h.Step()
		}
		f := x.h.CSR
		epc := uint64(base + 8*page + 24)
		if c.cause == 12 {
			epc = c.value
		}
		if x.h.PC != machine || f.Mode != api.Machine || f.Mcause != c.cause || f.Mtval != c.value || f.Mepc != epc || f.Previous() != api.User {
			t.Errorf("%s: PC %#x, %+v", c.line, x.h.PC, f)
		}
	}
}
