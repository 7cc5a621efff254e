package machine

import (
	"fmt"
	"strings"
	"testing"

	"vireo/api"
)

// Where a program's things stand in memory, from its beginning on.
const (
	handled = base + 0x3000 // the program that traps lead to
	blkQ    = base + 0x4000 // the queues, of which each has descriptors, Avail and Used
	rxQ     = base + 0x5000
	txQ     = base + 0x6000
	begins  = base + 0x7000 // a request's beginning, its bytes, its end
	content = base + 0x7200
	ends    = base + 0x7800
	came    = base + 0x8000 // what the console received
	told    = base + 0x9000 // what it is to transmit
	tables  = base + 0xa000 // three of them
	users   = base + 0xd000 // the user's page
)

// Of a queue's place.
const (
	availAt = 0x400
	usedAt  = 0x800
)

// program: instructions that stand one behind the other from the beginning of memory on; "@name" in one is how far it is to that name's.
type program struct {
	lines []string
	marks map[string]int
}

func (p *program) add(lines ...string) { p.lines = append(p.lines, lines...) }

// mark: the next instruction has a name.
func (p *program) mark(name string) {
	if p.marks == nil {
		p.marks = map[string]int{}
	}
	p.marks[name] = len(p.lines)
}

// at: where the instruction of that name stands.
func (p *program) at(name string) uint64 { return base + 4*uint64(p.marks[name]) }

// li: a number comes into a register.
func (p *program) li(reg string, n uint64) {
	low := int64(n<<52) >> 52
	high := uint64((int64(n) - low) >> 12)
	if high == 0 {
		p.add(fmt.Sprintf("addi %s,x0,%d", reg, low))
		return
	}
	p.li(reg, high)
	p.add("slli " + reg + "," + reg + ",12")
	if low != 0 {
		p.add(fmt.Sprintf("addi %s,%s,%d", reg, reg, low))
	}
}

// put: a number comes to an address, by x5 and x6.
func (p *program) put(store string, at, n uint64) {
	p.li("x5", n)
	p.li("x6", at)
	p.add(store + " x5,0(x6)")
}

// get: what an address holds comes into a register, by x6.
func (p *program) get(load, reg string, at uint64) {
	p.li("x6", at)
	p.add(load + " " + reg + ",0(x6)")
}

// set: a number comes into a system register, by x5.
func (p *program) set(number int, n uint64) {
	p.li("x5", n)
	p.add(fmt.Sprintf("csrrw x0,%#x,x5", number))
}

// device: one is begun by its driver; its queues have so many entries each, and stand at these places.
func (p *program) device(at uint64, entries uint64, queues ...uint64) {
	for _, c := range [][2]uint64{{0x70, 1}, {0x70, 3}, {0x24, 1}, {0x20, 1}, {0x70, 11}} {
		p.put("sw", at+c[0], c[1])
	}
	for n, q := range queues {
		for _, c := range [][2]uint64{{0x30, uint64(n)}, {0x38, entries}, {0x80, q}, {0x90, q + availAt}, {0xa0, q + usedAt}, {0x44, 1}} {
			p.put("sw", at+c[0], c[1])
		}
	}
	p.put("sw", at+0x70, 15)
}

// desc: a descriptor of a queue.
func (p *program) desc(q uint64, n, at, bytes, flags, next uint64) {
	p.put("sd", q+16*n, at)
	p.put("sd", q+16*n+8, bytes|flags<<32|next<<48)
}

// request: of a kind, from a sector on; the bytes that it reads, or writes.
func (p *program) request(kind, first, bytes uint64, in bool) {
	p.put("sd", begins, kind)
	p.put("sd", begins+8, first)
	flags := uint64(1)
	if in {
		flags = 3
	}
	p.desc(blkQ, 0, begins, 16, 1, 1)
	if bytes == 0 {
		p.desc(blkQ, 0, begins, 16, 1, 2)
	}
	p.desc(blkQ, 1, content, bytes, flags, 2)
	p.desc(blkQ, 2, ends, 1, 2, 0)
}

// offer: a queue's first chain is offered, for the n-th time, and the device is told of it.
func (p *program) offer(device, queue, q, n uint64) {
	p.put("sh", q+availAt+2, n)
	p.put("sw", device+0x50, queue)
}

// stay: the program goes round and round here.
func (p *program) stay() {
	p.mark("stay")
	p.add("jal x0,0")
}

// texts: the instructions as they are at last.
func (p *program) texts(t *testing.T) []string {
	t.Helper()
	out := make([]string, len(p.lines))
	for i, line := range p.lines {
		head, name, is := strings.Cut(line, "@")
		if to, known := p.marks[name]; is && known {
			line = head + fmt.Sprint(4*(to-i))
		} else if is {
			t.Fatalf("%s: there is no such name", line)
		}
		out[i] = line
	}
	return out
}

// image: that of the program, and of one that traps lead to.
func (p *program) image(t *testing.T, traps ...string) []byte {
	t.Helper()
	list := image(t, p.texts(t)...)
	if len(traps) == 0 {
		return list
	}
	if len(list) > handled-base {
		t.Fatalf("the program is too long: %d", len(list))
	}
	list = append(list, make([]byte, handled-base-len(list))...)
	return append(list, image(t, traps...)...)
}

// runs: a machine with a program does steps till it is at that name.
func (m *Machine) runs(t *testing.T, p *program, name string) {
	t.Helper()
	for range 20000 {
		if m.PC == p.at(name) {
			return
		}
		m.does(t, steps, 1)
	}
	t.Fatalf("it isn't at %s: PC %#x, %+v", name, m.PC, m.CSR)
}

// lets: the interrupts of both devices reach the machine's mode, and those of the clock.
func (p *program) lets() {
	p.put("sw", plicAt+4, 1)
	p.put("sw", plicAt+8, 1)
	p.put("sw", plicAt+0x2000, 6)
	p.set(0x305, handled)
	p.set(0x304, 0x888)
	p.add("csrrsi x0,0x300,8")
}

// handler: what traps lead to. x25 counts the clock's interrupts, x26 the disk's, x27 the console's, x24 what else came; x28 to x31 are its own.
func handler(t *testing.T) []string {
	p := &program{}
	p.add("csrrs x28,0x342,x0", "slli x29,x28,1", "srli x29,x29,1")
	p.add("bge x28,x0,@other", "addi x30,x0,7", "beq x29,x30,@clock", "addi x30,x0,11", "bne x29,x30,@other")
	p.li("x29", plicAt+0x200004)
	// The devices stand in pages of their own, in the order of their sources.
	p.add("lw x28,0(x29)", "slli x30,x28,12", "lui x31,65536", "add x30,x30,x31", "lw x31,0x60(x30)", "sw x31,0x64(x30)", "sw x28,0(x29)")
	p.add("addi x31,x0,1", "bne x28,x31,@console", "addi x26,x26,1", "mret")
	p.mark("console")
	p.add("addi x27,x27,1", "mret")
	p.mark("clock")
	p.add("addi x25,x25,1")
	// The next one comes 40 later.
	p.li("x29", clintAt+0xbff8)
	p.add("ld x28,0(x29)", "addi x28,x28,40")
	p.li("x29", clintAt+0x4000)
	p.add("sd x28,0(x29)", "mret")
	p.mark("other")
	p.add("addi x24,x24,1", "jal x0,0")
	return p.texts(t)
}

// echo: a program that transmits all that it receives, and writes it to the sectors, one behind the other; its traps are handled as above.
func echo() *program {
	p := &program{}
	p.device(blkAt, 4, blkQ)
	p.device(ttyAt, 1, rxQ, txQ)
	p.request(1, 0, 512, false)
	p.put("sd", blkQ+16, came)
	p.desc(rxQ, 0, came, 64, 2, 0)
	p.desc(txQ, 0, came, 0, 0, 0)
	p.put("sd", clintAt+0x4000, 40)
	p.lets()
	p.li("x10", rxQ)
	p.li("x11", txQ)
	p.li("x12", blkQ)
	p.li("x13", blkAt)
	p.li("x14", ttyAt)
	p.li("x15", begins)
	p.add("addi x20,x0,0", "addi x21,x0,1", "addi x22,x0,0", "addi x9,x0,3")
	p.mark("offer")
	p.add("addi x21,x20,1", "sh x21,1026(x10)", "sw x0,0x50(x14)")
	p.mark("wait")
	p.add("addi x8,x10,2047", "lhu x5,3(x8)", "beq x5,x20,@wait")
	p.add("addi x20,x20,1", "slli x20,x20,48", "srli x20,x20,48")
	// So many bytes came: they are transmitted.
	p.add("lwu x6,9(x8)", "sw x6,8(x11)", "sh x20,1026(x11)", "addi x7,x0,1", "sw x7,0x50(x14)")
	// And they are written to the next sector.
	p.add("and x6,x22,x9", "sd x6,8(x15)", "addi x22,x22,1", "sh x20,1026(x12)", "sw x0,0x50(x13)")
	p.add("jal x0,@offer")
	return p
}

// echoes: a machine with that program.
func echoes(t *testing.T) *Machine {
	t.Helper()
	return made(t, config(echo().image(t, handler(t)...)))
}

// P23.2, P23.6: a program that receives, transmits, writes, and is told by three kinds of interrupts.
func TestEchoes(t *testing.T) {
	m := echoes(t)
	m.does(t, steps, 2000)
	if len(m.TTY.Output()) != 0 || m.X[24] != 0 || m.X[25] != 0 || !m.Blk.Live() || !m.TTY.Live() || m.CSR.Mcause != 0 {
		t.Fatalf("PC %#x, %q, %+v", m.PC, m.TTY.Output(), m.CSR)
	}
	m.does(t, inputs, 0, []byte("hello")...)
	if len(m.TTY.Output()) != 0 || m.X[27] != 0 || string(m.reads(t, came, 5)) != "hello" {
		t.Fatalf("what came isn't in memory, or it is out already: %q", m.TTY.Output())
	}
	m.does(t, steps, 200)
	if string(m.TTY.Output()) != "hello" || m.X[26] != 1 || m.X[27] != 2 || m.X[25] != 0 || m.X[24] != 0 {
		t.Fatalf("%q, x24 to x27 are %d", m.TTY.Output(), m.X[24:28])
	}
	first, _ := m.Disk().Sector(0)
	if string(first[:6]) != "hello\x00" || m.Disk().Requests() != 1 {
		t.Errorf("%.20q is on the disk", first)
	}
	m.does(t, ticks, 39)
	m.does(t, steps, 100)
	if m.X[25] != 0 {
		t.Errorf("%d interrupts of the clock", m.X[25])
	}
	m.does(t, ticks, 1)
	m.does(t, steps, 100)
	if m.X[25] != 1 || m.Clint.Cmp != 80 {
		t.Errorf("%d interrupts of the clock, the next at %d", m.X[25], m.Clint.Cmp)
	}
	m.does(t, inputs, 0, pattern(150, 5)...)
	m.does(t, steps, 2000)
	if got := m.TTY.Output(); string(got) != "hello"+string(pattern(150, 5)) {
		t.Errorf("%q was transmitted", got)
	}
	if list := m.Served(); len(list) != 4 || list[3].Sector != 3 || list[3].Kind != 1 || list[3].Status != 0 || list[3].Count != 1 {
		t.Errorf("%+v were served", list)
	}
	if m.Steps() != 4400 || m.CSR.Cycle != 4400 || m.CSR.Instret != 4400-m.X[25]-m.X[26]-m.X[27] {
		t.Errorf("%d steps, %d, %d", m.Steps(), m.CSR.Cycle, m.CSR.Instret)
	}
}

// P23.2: a program that writes to the console.
func TestAProgramThatTransmits(t *testing.T) {
	p := &program{}
	p.device(ttyAt, 2, rxQ, txQ)
	for i, c := range []byte("vireo\n") {
		p.put("sb", told+uint64(i), uint64(c))
	}
	p.desc(txQ, 0, told, 6, 0, 0)
	p.mark("ready")
	p.offer(ttyAt, 1, txQ, 1)
	p.mark("one")
	p.offer(ttyAt, 1, txQ, 2)
	p.offer(ttyAt, 1, txQ, 3)
	p.stay()
	m := made(t, config(p.image(t)))
	m.runs(t, p, "ready")
	if len(m.TTY.Output()) != 0 || m.Steps() != uint64(p.marks["ready"]) {
		t.Errorf("%q, %d steps", m.TTY.Output(), m.Steps())
	}
	m.runs(t, p, "one")
	if string(m.TTY.Output()) != "vireo\n" || m.loads(t, txQ+usedAt+2, 2) != 1 || !m.TTY.Line() {
		t.Errorf("%q", m.TTY.Output())
	}
	m.runs(t, p, "stay")
	if string(m.TTY.Output()) != "vireo\nvireo\nvireo\n" || m.TTY.Lost() != 0 || m.CSR.Instret != m.Steps() || m.Steps() != uint64(p.marks["stay"]) {
		t.Errorf("%q, %d steps", m.TTY.Output(), m.Steps())
	}
}

// P23.2: a program in the user's mode behind tables: it leaves its page by a store, which is the trap StorePage; what it stored ahead of that stands there.
func TestAUsersProgram(t *testing.T) {
	p := &program{}
	p.set(0x305, handled)
	// Three tables, of which the last lets the user have one page, at 0x5000.
	p.put("sd", tables, (tables+page)>>12<<10|1)
	p.put("sd", tables+page, (tables+2*page)>>12<<10|1)
	p.put("sd", tables+2*page+5*8, users>>12<<10|0xdf)
	for i, w := range []string{"addi x1,x0,77", "lui x2,6", "sd x1,-8(x2)", "ld x3,-8(x2)", "sd x1,0(x2)"} {
		word := image(t, w)
		p.put("sw", users+4*uint64(i), uint64(word[0])|uint64(word[1])<<8|uint64(word[2])<<16|uint64(word[3])<<24)
	}
	p.set(0x180, 8<<60|tables>>12)
	p.set(0x341, 0x5000)
	p.mark("leave")
	p.add("mret")
	q := &program{}
	q.mark("trap")
	q.add("csrrs x10,0x342,x0", "csrrs x11,0x343,x0", "csrrs x12,0x341,x0", "jal x0,0")
	m := made(t, config(p.image(t, q.texts(t)...)))
	m.runs(t, p, "leave")
	m.does(t, steps, 1)
	if m.CSR.Mode != api.User || m.PC != 0x5000 || m.CSR.Satp != 8<<60|tables>>12 {
		t.Fatalf("PC %#x, %+v", m.PC, m.CSR)
	}
	m.does(t, steps, 4)
	if m.X[1] != 77 || m.X[3] != 77 || m.loads(t, users+page-8, 8) != 77 || m.PC != 0x5010 {
		t.Fatalf("PC %#x, x3 %d", m.PC, m.X[3])
	}
	before := m.keeps()
	m.does(t, steps, 1)
	if m.PC != handled || m.CSR.Mode != api.Machine || m.CSR.Mcause != 15 || m.CSR.Mtval != 0x6000 || m.CSR.Mepc != 0x5010 {
		t.Errorf("PC %#x, %+v", m.PC, m.CSR)
	}
	after := m.keeps()
	before.hart, before.steps = after.hart, after.steps
	if not := after.isNot(before); not != "" {
		t.Errorf("the trap: %s", not)
	}
	m.does(t, steps, 4)
	if m.X[10] != 15 || m.X[11] != 0x6000 || m.X[12] != 0x5010 || m.Waits {
		t.Errorf("x10 to x12 are %#x", m.X[10:13])
	}
}

// The fifth and the sixth of the document's examples: what a driver reads of the devices, and how it begins them; with a feature that wasn't offered it doesn't come so far.
func TestWhatADriverReads(t *testing.T) {
	for _, c := range []struct{ feature, status uint64 }{{0, 11}, {1, 3}} {
		p := &program{}
		p.get("lwu", "x10", blkAt)
		p.get("lwu", "x11", blkAt+4)
		p.get("lwu", "x12", blkAt+8)
		p.get("lwu", "x13", ttyAt+8)
		p.put("sw", blkAt+0x70, 1)
		p.put("sw", blkAt+0x70, 3)
		p.put("sw", blkAt+0x20, c.feature)
		p.put("sw", blkAt+0x24, 1)
		p.put("sw", blkAt+0x20, 1)
		p.put("sw", blkAt+0x70, 11)
		p.get("lwu", "x14", blkAt+0x70)
		p.stay()
		m := made(t, config(p.image(t)))
		m.runs(t, p, "stay")
		if m.X[10] != 0x74726976 || m.X[11] != 2 || m.X[12] != 2 || m.X[13] != 3 || m.X[14] != c.status {
			t.Errorf("x10 to x14 are %#x", m.X[10:15])
		}
	}
}
