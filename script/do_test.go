package script

import (
	"fmt"
	"slices"
	"strings"
	"testing"

	"vireo/api"
	"vireo/disk"
)

// P24.3: Do of an event's line: it comes to the machine, which has no more of it than of the event itself.
func TestDoOfEvents(t *testing.T) {
	for _, c := range []struct {
		line string
		e    api.Event
		want string
	}{
		{"step 0", api.Event{Kind: 1}, "ok"},
		{"step 1", api.Event{Kind: 1, Arg: 1}, "ok"},
		{" step\t0x1000 ", api.Event{Kind: 1, Arg: 4096}, "ok"},
		{"step 65536", api.Event{Kind: 1, Arg: 65536}, "ok"},
		{"step 65537", api.Event{Kind: 1, Arg: 65537}, "error 1"},
		{"step 0xffffffffffffffff", api.Event{Kind: 1, Arg: ones}, "error 1"},
		{"tick 0", api.Event{Kind: 2}, "ok"},
		{"tick 5", api.Event{Kind: 2, Arg: 5}, "ok"},
		{"tick 0xffffffffffffffff", api.Event{Kind: 2, Arg: ones}, "ok"},
		{"fault 0", api.Event{Kind: 4}, "ok"},
		{"fault 1", api.Event{Kind: 4, Arg: 1}, "ok"},
		{"fault 18446744073709551615", api.Event{Kind: 4, Arg: ones}, "ok"},
		{`input ""`, api.Event{Kind: 3}, "ok"},
		{`input "a\nb\x00"`, api.Event{Kind: 3, Data: []byte("a\nb\x00")}, "ok"},
		{"input " + Quote(make([]byte, 5000)), api.Event{Kind: 3, Data: make([]byte, 5000)}, "ok"},
		{"input " + Quote(make([]byte, 65536)), api.Event{Kind: 3, Data: make([]byte, 65536)}, "ok"},
		{"input " + Quote(make([]byte, 65537)), api.Event{Kind: 3, Data: make([]byte, 65537)}, "error 2"},
	} {
		s, other := works(t), works(t)
		s.says(t, c.line, c.want)
		if no := other.Machine.Do(c.e); (no == 0) != (c.want == "ok") {
			t.Errorf("the machine's Do of %.80q: %d", c.line, no)
		}
		s.is(t, c.line, keepsOf(other.Machine))
		if !slices.Equal(s.Served(), other.Served()) {
			t.Errorf("%.80q: other requests were served", c.line)
		}
	}
}

// P24.3: what an event changes, told by hand.
func TestWhatEventsChange(t *testing.T) {
	s := does(t, "addi x1,x1,1", "jal x0,-4")
	s.each(t, [2]string{"step 21", "ok"}, [2]string{"reg x1", "0xb"}, [2]string{"tick 7", "ok"}, [2]string{`input "abc"`, "ok"}, [2]string{"fault 2", "ok"})
	if s.Steps() != 21 || s.Clint.Now != 7 || string(s.TTY.Input().Peek(9)) != "abc" || failsAt(s.Disk()) != 2 {
		t.Errorf("%d steps, %d, %q, %d", s.Steps(), s.Clint.Now, s.TTY.Input().Peek(9), failsAt(s.Disk()))
	}
}

// P24.3: reg: of each register, and of names that are none.
func TestReg(t *testing.T) {
	s := works(t)
	for n := range s.X[1:] {
		s.X[n+1] = ones - uint64(n)*0x1234567
	}
	s.says(t, "reg x0", "0x0")
	for n := 1; n < 32; n++ {
		s.says(t, fmt.Sprintf("reg x%d", n), fmt.Sprintf("0x%x", ones-uint64(n-1)*0x1234567))
	}
	s.X[1], s.X[31] = 0, top
	s.each(t, [2]string{" \treg \t x1\t ", "0x0"}, [2]string{"reg\tx31", "0x8000000000000000"})
	for _, name := range []string{"", "x", "x32", "x33", "x100", "x-1", "x00", "x01", "x031", "x0x1", "x+1", "X1", "1", "31", "0x1", "xx1", "x1x", "x1,", "x 1", "x1 x2", "x1 1", "ra", "sp", "zero", "pc", "x1\n", "x1\r", "\"x1\"", "\u00d71", "x\u0661", "x4294967297", "x18446744073709551617", "*"} {
		s.says(t, "reg "+name, "error 240")
	}
	s.says(t, "reg", "error 240")
}

// The system registers: their names, and their numbers.
var systems = []struct {
	number int
	name   string
}{
	{0x100, "sstatus"}, {0x104, "sie"}, {0x105, "stvec"}, {0x106, "scounteren"}, {0x140, "sscratch"}, {0x141, "sepc"}, {0x142, "scause"}, {0x143, "stval"}, {0x144, "sip"}, {0x180, "satp"},
	{0x300, "mstatus"}, {0x301, "misa"}, {0x302, "medeleg"}, {0x303, "mideleg"}, {0x304, "mie"}, {0x305, "mtvec"}, {0x306, "mcounteren"}, {0x340, "mscratch"}, {0x341, "mepc"}, {0x342, "mcause"}, {0x343, "mtval"}, {0x344, "mip"},
	{0xb00, "mcycle"}, {0xb02, "minstret"}, {0xc00, "cycle"}, {0xc01, "time"}, {0xc02, "instret"}, {0xf11, "mvendorid"}, {0xf12, "marchid"}, {0xf13, "mimpid"}, {0xf14, "mhartid"},
}

// P24.3: csr: by each name, and by each number's Hex; what it holds is told, whatever the mode.
func TestCsr(t *testing.T) {
	s := works(t)
	f := &s.CSR
	f.Status, f.Medeleg, f.Mideleg, f.Mie, f.Soft, f.Lines = 0xa2, 0xb3ff, 0x222, 0xaaa, 0x222, 0x880
	f.Mtvec, f.Mcounteren, f.Mscratch, f.Mepc, f.Mcause, f.Mtval = 1, 2, 3, 4, 5, 6
	f.Stvec, f.Scounteren, f.Sscratch, f.Sepc, f.Scause, f.Stval = 0x11, 0x12, 0x13, 0x14, ones, 0x16
	f.Satp, f.Cycle, f.Instret, f.Time = 8<<60|1, 0x21, top, 0x23
	want := map[string]uint64{
		"sstatus": 0x200000022, "sie": 0x222, "stvec": 0x11, "scounteren": 0x12, "sscratch": 0x13, "sepc": 0x14, "scause": ones, "stval": 0x16, "sip": 0x222, "satp": 8<<60 | 1,
		"mstatus": 0xa000000a2, "misa": 0x8000000000141101, "medeleg": 0xb3ff, "mideleg": 0x222, "mie": 0xaaa, "mtvec": 1, "mcounteren": 2, "mscratch": 3, "mepc": 4, "mcause": 5, "mtval": 6, "mip": 0xaa2,
		"mcycle": 0x21, "minstret": top, "cycle": 0x21, "time": 0x23, "instret": top, "mvendorid": 0, "marchid": 0, "mimpid": 0, "mhartid": 0,
	}
	for _, mode := range []api.Mode{3, 1, 0} {
		f.Mode = mode
		for _, c := range systems {
			answer := fmt.Sprintf("0x%x", want[c.name])
			s.says(t, "csr "+c.name, answer)
			s.says(t, fmt.Sprintf("csr 0x%x", c.number), answer)
			s.says(t, fmt.Sprintf(" csr\t \t0x%x\t", c.number), answer)
		}
	}
}

// P24.3: csr, of what is no register's name, nor its number's Hex.
func TestCsrOfNone(t *testing.T) {
	s := works(t)
	known := map[int]bool{}
	for _, c := range systems {
		known[c.number] = true
		for _, form := range []string{"%d", "0x0%x", "0X%x", "%x", "0x%x0", "-0x%x", "0x%x 1", "csr0x%x", "x%d", "x%x", "0o%o", "\"0x%x\"", "0x%x,", "0x1000000000000%x", "0x100000%x"} {
			s.says(t, "csr "+fmt.Sprintf(form, c.number), "error 240")
		}
		for _, name := range []string{strings.ToUpper(c.name), c.name + "s", c.name[1:], c.name + " 0", c.name + "\n", "x" + c.name, c.name[:len(c.name)-1]} {
			if slices.ContainsFunc(systems, func(other struct {
				number int
				name   string
			}) bool {
				return other.name == name
			}) {
				continue
			}
			s.says(t, "csr "+name, "error 240")
		}
	}
	for n := range 5000 {
		if !known[n] {
			s.says(t, fmt.Sprintf("csr 0x%x", n), "error 240")
		}
	}
	for _, name := range []string{"", "0xf", "0xF11", "0x", "0", "mode", "pc", "x1", "0xffffffffffffffff", "0xfffffffffffff300", "0x100000000000000300", "768", "misa misa", "ustatus", "pmpcfg0", "mstatus,", "*"} {
		s.says(t, "csr "+name, "error 240")
	}
	s.says(t, "csr", "error 240")
}

// P24.3: pc, from the beginning on.
func TestPC(t *testing.T) {
	s := does(t, "jal x0,4096")
	s.each(t, [2]string{"pc", "0x80000000"}, [2]string{"step 1", "ok"}, [2]string{"pc", "0x80001000"}, [2]string{"\t pc \t", "0x80001000"})
	s.PC = ones
	s.says(t, "pc", "0xffffffffffffffff")
	s.PC = 0
	s.says(t, "pc", "0x0")
}

// P24.3: out, behind nothing and behind something that was transmitted: all of it, however often it is asked.
func TestOut(t *testing.T) {
	s := does(t)
	s.says(t, "out", `""`)
	s.says(t, `input "abc"`, "ok")
	s.says(t, "out", `""`)
	begins(s.Machine, ttyAt, rxQ, txQ)
	transmits(s.Machine, 1, []byte("hello\n"))
	s.each(t, [2]string{"out", `"hello\n"`}, [2]string{"out", `"hello\n"`}, [2]string{" \tout \t", `"hello\n"`})
	transmits(s.Machine, 2, []byte{0, '"', '\\', 0x80})
	s.says(t, "out", `"hello\n\x00\"\\\x80"`)
	if string(s.TTY.Output()) != "hello\n\x00\"\\\x80" {
		t.Errorf("%q was transmitted", s.TTY.Output())
	}
}

// P24.3: out tells as much as the console keeps.
func TestLongOut(t *testing.T) {
	s := does(t)
	begins(s.Machine, ttyAt, rxQ, txQ)
	var want []byte
	for n := range uint64(35) {
		list := pattern(2000, int(n))
		transmits(s.Machine, n+1, list)
		want = append(want, list...)
	}
	s.says(t, "out", Quote(want[:65536]))
	if s.TTY.Lost() != 35*2000-65536 {
		t.Errorf("%d were lost", s.TTY.Lost())
	}
}

// P24.3: mem: of how many bytes it may be asked, and where they are.
func TestMem(t *testing.T) {
	list := pattern(size, 5)
	s := made(t, config(list))
	for _, n := range []uint64{0, 1, 2, 3, 4, 7, 8, 511, 4095, 4096} {
		for _, at := range []uint64{base, base + 1, base + 3, base + page - 1, base + page, base + size - n, base + size - 4096} {
			if at+n > base+size {
				continue
			}
			want := quoted(list[at-base : at-base+n])
			for _, line := range []string{"mem %#x %d", "mem %d %#x", " mem\t%#x\t%d ", "\tmem   %#x \t  %d\t ", "mem 0x0%x 00%d"} {
				s.says(t, fmt.Sprintf(line, at, n), want)
			}
		}
		// Over its end, and ahead of it, there are none.
		for _, at := range []uint64{0, 1, clintAt, plicAt, plicAt + 0x200004, blkAt, ttyAt, base - 1, base - 4096, base + size - n + 1, base + size + 1, base + size + page, 1 << 32, 1<<32 + base, top, ones, ones - n + 1, ones - 4095} {
			s.says(t, fmt.Sprintf("mem %#x %d", at, n), "error 21")
		}
	}
	s.each(t, [2]string{"mem 0x80004000 0", `""`}, [2]string{"mem 0x80004000 1", "error 21"}, [2]string{"mem 0x80000001 4096", quoted(list[1:4097])})
}

// P24.3: mem of more than 4096 bytes, or of anything but two numbers, is no such line, whether the bytes are there or not.
func TestMemOfNone(t *testing.T) {
	s := made(t, config(pattern(size, 5)))
	small := made(t, config(nil))
	for _, n := range []uint64{4097, 4098, 8192, size, size + 1, 65536, 1 << 32, 1<<32 + 1, top, ones} {
		for _, at := range []uint64{base, base + 1, base + page, base - 1, 0, ones, base + size} {
			s.says(t, fmt.Sprintf("mem %#x %d", at, n), "error 240")
			small.says(t, fmt.Sprintf("mem %#x %#x", at, n), "error 240")
		}
	}
	for _, rest := range rests {
		s.says(t, "mem "+rest, "error 240")
		s.says(t, "mem\t"+rest+" ", "error 240")
	}
	s.says(t, "mem", "error 240")
}

// What isn't two numbers.
var rests = []string{
	"", "1", "0x80000000", "x", "0x80000000 x", "x 1", "0x80000000 1 1", "0x80000000 1 x", "0x80000000\t1\t1", "0x80000000,1", "0x80000000, 1", "0x80000000 ,1", "0x80000000 -1", "-1 1", "0x80000000 +1", "0x80000000 0x", "0x 1", "0x80000000 1\n", "0x80000000\n1", "0x80000000 1\r", "\n0x80000000 1",
	"0X80000000 1", "0x8000000F 1", "80000000x 1", "0x80000000 1f", "18446744073709551616 1", "0x80000000 18446744073709551616", "0x80000000 0x10000000000000000", "x1 1", "pc 1", "\"a\" 1", "0x80000000 \"a\"", "0x80000000 1 #", "0x80000000\u00a01", "0x80000000\v1", "(0x80000000) 1",
}

// P24.3: list, of instructions, and of words that are none.
func TestList(t *testing.T) {
	texts := []string{"addi x1,x0,5", "lui x2,-1", "lw x3,-8(x2)", "sd x1,8(x2)", "beq x1,x2,-16", "csrrw x0,0x305,x5", "lr.w.aq x1,(x2)", "amoadd.d.aqrl x1,x2,(x3)", "ecall", "mret", "sfence.vma x1,x2", "fence x0,x0,0"}
	program := append(image(t, texts...), 0, 0, 0, 0, 0xff, 0xff, 0xff, 0xff, 0x78, 0x56, 0x34, 0x12)
	texts = append(texts, "0x0", "0xffffffff", "0x12345678")
	s := made(t, config(program))
	for n := range len(texts) + 1 {
		for from := range len(texts) + 1 - n {
			s.says(t, fmt.Sprintf("list %#x %d", base+4*from, n), strings.Join(texts[from:from+n], "; "))
		}
	}
	s.each(t,
		[2]string{" list\t0x80000000 \t 2\t", "addi x1,x0,5; lui x2,-1"},
		[2]string{"list 2147483648 0x1", "addi x1,x0,5"},
		[2]string{"list 0x80000000 0", ""},
		[2]string{"list 0x80004000 0", ""},
		[2]string{"list 0x80000002 0", ""},
		[2]string{"list 0x80003ffc 1", "0x0"},
		[2]string{"list 0x80003ffc 2", "error 21"},
		[2]string{"list 0x80003ffd 1", "error 21"},
		[2]string{"list 0x80004000 1", "error 21"},
		[2]string{"list 0x7ffffffc 1", "error 21"},
		[2]string{"list 0x7fffffff 1", "error 21"},
		[2]string{"list 0x7fffffff 0", "error 21"},
		[2]string{"list 0x80004001 0", "error 21"},
		[2]string{"list 0xfffffffffffffffc 1", "error 21"},
		[2]string{"list 0xffffffffffffffff 256", "error 21"},
		[2]string{"list 0 0", "error 21"},
		[2]string{"list 0x10001000 1", "error 21"},
		[2]string{"list 0x200bff8 2", "error 21"},
	)
}

// P24.3: list at places that 4 doesn't divide: the words are those of the bytes there.
func TestListAnywhere(t *testing.T) {
	s := made(t, config([]byte{0, 0x93, 0, 0x50, 0, 0x13, 0x01, 0x60, 0, 0x73}))
	s.each(t,
		[2]string{"list 0x80000001 1", "addi x1,x0,5"},
		[2]string{"list 0x80000001 2", "addi x1,x0,5; addi x2,x0,6"},
		[2]string{"list 0x80000001 3", "addi x1,x0,5; addi x2,x0,6; ecall"},
		[2]string{"list 0x80000000 1", "0x50009300"},
		[2]string{"list 0x80000002 2", "0x13005000; 0x73006001"},
		[2]string{"list 0x80000003 1", "0x1130050"},
	)
}

// P24.3: list of many words, and of too many.
func TestListsBounds(t *testing.T) {
	var lines []string
	for n := range 400 {
		lines = append(lines, fmt.Sprintf("addi x%d,x1,%d", n%32, n))
	}
	s := does(t, lines...)
	for _, n := range []int{1, 2, 3, 255, 256} {
		s.says(t, fmt.Sprintf("list 0x80000000 %d", n), strings.Join(lines[:n], "; "))
		s.says(t, fmt.Sprintf("list 0x80000010 %#x", n), strings.Join(lines[4:4+n], "; "))
	}
	s.says(t, "list 0x80003c00 256", strings.Repeat("0x0; ", 255)+"0x0")
	s.says(t, "list 0x80003c01 256", "error 21")
	s.says(t, "list 0x80003c04 256", "error 21")
	for _, n := range []uint64{257, 258, 1024, 4096, 1 << 32, 1 << 62, 1<<62 + 1, 1 << 63, ones} {
		for _, at := range []uint64{base, base + 1, base + size, 0, ones} {
			s.says(t, fmt.Sprintf("list %#x %d", at, n), "error 240")
		}
	}
	for _, rest := range rests {
		s.says(t, "list "+rest, "error 240")
	}
	s.says(t, "list", "error 240")
}

// P24.3: sector: of the first, of the last, and of those that aren't there.
func TestSector(t *testing.T) {
	s := works(t)
	before := s.Disk().Requests()
	for n := range count {
		want := quoted(onDisk[512*n : 512*n+512])
		s.says(t, fmt.Sprintf("sector %d", n), want)
		s.says(t, fmt.Sprintf(" sector\t \t%#x\t", n), want)
		s.says(t, fmt.Sprintf("sector 00%d", n), want)
	}
	for _, n := range []uint64{count, count + 1, 65535, 65536, 1 << 32, 1 << 55, 1<<55 + 1, top, ones} {
		s.says(t, fmt.Sprintf("sector %d", n), "error 131")
		s.says(t, fmt.Sprintf("sector %#x", n), "error 131")
	}
	for _, rest := range []string{"", "x", "0 0", "0 1", "-1", "0,", "0x", "0xF", "0X0", "18446744073709551616", "0x10000000000000000", `"0"`, "0\n", "0\r", "x0", "one"} {
		s.says(t, "sector "+rest, "error 240")
	}
	s.says(t, "sector", "error 240")
	if s.Disk().Requests() != before {
		t.Errorf("sector is a request")
	}
	// It tells what stands there now.
	s.Disk().Fill([]byte("now\n"))
	s.says(t, "sector 0", `"now\n`+strings.Repeat(`\x00`, 508)+`"`)
	// A fault of the disk, and a lock, are nothing to it.
	c := config(nil)
	c.Locked, c.Disk, c.Sectors = true, []byte("a"), 65536
	s = made(t, c)
	s.each(t, [2]string{"fault 1", "ok"}, [2]string{"sector 0", `"a` + strings.Repeat(`\x00`, 511) + `"`}, [2]string{"sector 65535", `"` + strings.Repeat(`\x00`, 512) + `"`}, [2]string{"sector 65536", "error 131"})
	if d := s.Disk(); d.Flush() != 133 || !disk.Same(d, made(t, c).Disk()) {
		t.Errorf("the fault is gone")
	}
}

// P24.3: names that take no rest, with one; names that are none; lines of nothing.
func TestNamesOfNone(t *testing.T) {
	s := works(t)
	for _, name := range []string{"pc", "out", "state"} {
		for _, rest := range []string{"0", "1", "x1", "pc", "out", "state", `""`, "#", "\n", "\r", "-", ",", "0 0"} {
			s.says(t, name+" "+rest, "error 240")
			s.says(t, name+"\t"+rest+" ", "error 240")
			s.says(t, name+rest, "error 240")
		}
	}
	for _, line := range []string{
		"", " ", "\t", " \t ", "\n", "#", "# text", "#step 1", "x1", "0", "0x1", "ok", "error", "error 240", "regs x1", "re x1", "Reg x1", "REG x1", "regx1", "reg\nx1", "register x1", "csrs misa", "csrmisa", "CSR misa", "PC", "Pc", "p", "pcs", "ou", "outs", "OUT", "output", "in", "mems 0x80000000 1", "me 0x80000000 1", "MEM 0x80000000 1", "memory 0x80000000 1",
		"lists 0x80000000 1", "lis 0x80000000 1", "LIST 0x80000000 1", "sectors 0", "secto 0", "SECTOR 0", "disk", "disk 0", "stat", "states", "STATE", "step", "step x", "step 1 1", "step -1", "step 18446744073709551616", "steps 1", "STEP 1", "tick", "tick x", "fault", "fault x", "input", "input a", `input "a`, `input "a" "b"`, `input "\X41"`, "input 1", "run", "run 1", "load 0x80000000", "write", "quit", "help", "?",
		"pc\n", "pc\r", "pc\r\n", "\npc", "pc;", "pc pc", "pc\x00", "\x00", "\x00pc", "\u00a0pc", "\vpc", "pc\f", "\xff", "step 1\n", "step 1\r\n", strings.Repeat("pc ", 30000), strings.Repeat("x", 100000),
	} {
		s.says(t, line, "error 240")
	}
}

// P24.3: Run of no line, of one, of several, of which some are refused: each is answered, and each is done.
func TestRun(t *testing.T) {
	program := []string{"addi x1,x1,1", "jal x0,-4"}
	s := does(t, program...)
	for _, c := range []struct{ lines, want []string }{
		{nil, nil},
		{[]string{}, nil},
		{[]string{"pc"}, []string{"0x80000000"}},
		{[]string{"step 1"}, []string{"ok"}},
		{[]string{""}, []string{"error 240"}},
		{[]string{"step 65537", "step 2", "x", "reg x1", "", "mem 0 1", "tick 3", "sector 9", "step 2", "reg x1", "pc"}, []string{"error 1", "ok", "error 240", "0x2", "error 240", "error 21", "ok", "error 131", "ok", "0x3", "0x80000004"}},
		{[]string{"pc", "pc", "step 1", "pc"}, []string{"0x80000004", "0x80000004", "ok", "0x80000000"}},
		{[]string{"list 0x80000000 0", "list 0x80000000 2"}, []string{"", "addi x1,x1,1; jal x0,-4"}},
	} {
		if got := s.Run(c.lines...); !slices.Equal(got, c.want) {
			t.Errorf("Run(%q): %q, not %q", c.lines, got, c.want)
		}
	}
	// Told one behind the other they are answered likewise.
	lines := []string{"step 3", "reg x1", "state", "x", "tick 9", `input "a"`, "state", "step 65537", "out"}
	other := does(t, program...)
	s = does(t, program...)
	var want []string
	for _, line := range lines {
		want = append(want, other.Do(line))
	}
	if got := s.Run(lines...); !slices.Equal(got, want) {
		t.Errorf("Run(%q): %q, not %q", lines, got, want)
	}
	s.is(t, "Run", keepsOf(other.Machine))
	if got := s.Run(slices.Repeat([]string{"step 1"}, 3000)...); len(got) != 3000 || s.Steps() != 3003 {
		t.Errorf("%d answers, %d steps", len(got), s.Steps())
	}
}
