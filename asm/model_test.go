package asm

import (
	"math/big"
	"math/rand"
	"regexp"
	"strconv"
	"strings"

	"vireo/api"
)

// kind is a row of P4.1 with layer 3's bounds of Imm: names, what stands behind them (D, A, B registers, N a number, U one in units of 4096, C a system register), and the numbers that Imm may be.
type kind struct {
	names, parts      string
	least, last, step int64
}

var kinds = []kind{
	{"lui auipc", "D,U", -2147483648, 2147479552, 4096},
	{"jal", "D,N", -1048576, 1048574, 2},
	{"lb lh lw ld lbu lhu lwu", "D,N(A)", -2048, 2047, 1},
	{"sb sh sw sd", "B,N(A)", -2048, 2047, 1},
	{"beq bne blt bge bltu bgeu", "A,B,N", -4096, 4094, 2},
	{"csrrw csrrs csrrc", "D,C,A", 0, 0, 1},
	{"csrrwi csrrsi csrrci", "D,C,N", 0, 31, 1},
	{"lr.w lr.d", "D,(A)", 0, 0, 1},
	{"sc.w amoswap.w amoadd.w amoxor.w amoand.w amoor.w amomin.w amomax.w amominu.w amomaxu.w", "D,B,(A)", 0, 0, 1},
	{"sc.d amoswap.d amoadd.d amoxor.d amoand.d amoor.d amomin.d amomax.d amominu.d amomaxu.d", "D,B,(A)", 0, 0, 1},
	{"sfence.vma", "A,B", 0, 0, 1},
	{"jalr addi slti sltiu xori ori andi addiw", "D,A,N", -2048, 2047, 1},
	{"slli srli srai", "D,A,N", 0, 63, 1},
	{"slliw srliw sraiw", "D,A,N", 0, 31, 1},
	{"fence fence.i", "D,A,N", 0, 4095, 1},
	{"ecall ebreak mret sret wfi", "", 0, 0, 1},
	{"add sub sll slt sltu xor srl sra or and addw subw sllw srlw sraw", "D,A,B", 0, 0, 1},
	{"mul mulh mulhsu mulhu div divu rem remu mulw divw divuw remw remuw", "D,A,B", 0, 0, 1},
}

const (
	gap      = `[ \t]*`
	register = `x(0|[1-9]|[12][0-9]|3[01])`
	number   = `(-?(?:0x[0-9a-f]+|[0-9]+))`
)

// form is a kind with the pattern of its texts, and an instruction of its operation with the order that its name tells.
type form struct {
	kind
	x       api.Instr
	pattern *regexp.Regexp
}

// model knows instructions' texts by patterns alone.
type model map[string]form

func newModel() model {
	ops := map[string]int{}
	for _, r := range rows {
		ops[strings.Fields(r.s)[0]] = r.x.Op
	}
	m := model{}
	for _, k := range kinds {
		for _, name := range strings.Fields(k.names) {
			m.add(name, k, api.Instr{Op: ops[name]})
			if k.parts == "D,(A)" || k.parts == "D,B,(A)" {
				m.add(name+".aq", k, api.Instr{Op: ops[name], Aq: true})
				m.add(name+".rl", k, api.Instr{Op: ops[name], Rl: true})
				m.add(name+".aqrl", k, api.Instr{Op: ops[name], Aq: true, Rl: true})
			}
		}
	}
	return m
}

func (m model) add(name string, k kind, x api.Instr) {
	behind := ""
	for _, c := range k.parts {
		switch c {
		case 'D', 'A', 'B':
			behind += register
		case 'N', 'U', 'C':
			behind += number
		default:
			behind += gap + `\` + string(c) + gap
		}
	}
	if behind != "" {
		behind = `[ \t]+` + behind
	}
	m[name] = form{k, x, regexp.MustCompile(`\A` + gap + regexp.QuoteMeta(name) + behind + gap + `\z`)}
}

// parse is the model of Parse.
func (m model) parse(s string) (api.Instr, bool) {
	words := strings.FieldsFunc(s, func(c rune) bool { return c == ' ' || c == '\t' })
	if len(words) == 0 {
		return api.Instr{}, false
	}
	f, known := m[words[0]]
	if !known {
		return api.Instr{}, false
	}
	found := f.pattern.FindStringSubmatch(s)
	if found == nil {
		return api.Instr{}, false
	}
	x := f.x
	for i, c := range strings.NewReplacer(",", "", "(", "", ")", "").Replace(f.parts) {
		least, last, step := int64(0), int64(31), int64(1)
		switch c {
		case 'N':
			least, last, step = f.least, f.last, f.step
		case 'U':
			least, last = f.least/4096, f.last/4096
		case 'C':
			last = 4095
		}
		n, fits := bounded(found[i+1], least, last, step)
		if !fits {
			return api.Instr{}, false
		}
		set(&x, c, n)
	}
	return x, true
}

// bounded: the number that a text writes, with as many digits as it likes, if it lies between two and is divided by a third.
func bounded(s string, least, last, step int64) (int64, bool) {
	digits, below := strings.CutPrefix(s, "-")
	hex, base := strings.CutPrefix(digits, "0x")
	n := new(big.Int)
	if base {
		n.SetString(hex, 16)
	} else {
		n.SetString(digits, 10)
	}
	if below {
		n.Neg(n)
	}
	if n.Cmp(big.NewInt(least)) < 0 || n.Cmp(big.NewInt(last)) > 0 || n.Int64()%step != 0 {
		return 0, false
	}
	return n.Int64(), true
}

func set(x *api.Instr, part rune, n int64) {
	switch part {
	case 'D':
		x.Rd = int(n)
	case 'A':
		x.Rs1 = int(n)
	case 'B':
		x.Rs2 = int(n)
	case 'N':
		x.Imm = n
	case 'U':
		x.Imm = n * 4096
	case 'C':
		x.CSR = int(n)
	}
}

// byChance: an instruction of a form that is right, and its text; now and then a part is at its end.
func (f form) byChance(chance *rand.Rand, name string) (api.Instr, string) {
	pick := func(least, last, step int64) int64 {
		switch chance.Intn(8) {
		case 0:
			return least
		case 1:
			return last
		}
		return least + step*chance.Int63n((last-least)/step+1)
	}
	x, s := f.x, name
	if f.parts != "" {
		s += " "
	}
	for _, c := range f.parts {
		switch c {
		case 'D', 'A', 'B':
			n := pick(0, 31, 1)
			set(&x, c, n)
			s += "x" + strconv.FormatInt(n, 10)
		case 'N':
			n := pick(f.least, f.last, f.step)
			set(&x, c, n)
			s += strconv.FormatInt(n, 10)
		case 'U':
			n := pick(f.least/4096, f.last/4096, 1)
			set(&x, c, n)
			s += strconv.FormatInt(n, 10)
		case 'C':
			n := pick(0, 4095, 1)
			set(&x, c, n)
			s += "0x" + strconv.FormatInt(n, 16)
		default:
			s += string(c)
		}
	}
	return x, s
}

// names: all that the model knows, in a row that is always the same.
func (m model) names() []string {
	var out []string
	for _, k := range kinds {
		for _, name := range strings.Fields(k.names) {
			for _, order := range []string{"", ".aq", ".rl", ".aqrl"} {
				if _, is := m[name+order]; is {
					out = append(out, name+order)
				}
			}
		}
	}
	return out
}
