package script

import (
	"fmt"
	"math/big"
	"math/rand"
	"regexp"
	"slices"
	"strconv"
	"strings"
	"testing"

	"vireo/api"
	"vireo/asm"
	"vireo/inst"
	"vireo/machine"
)

// The forms of lines, as patterns.
const (
	number = `(0x[0-9a-f]+|[0-9]+)`
	text   = `("(?:[ !#-\[\]-~]|\\["\\n]|\\x[0-9a-f][0-9a-f])*")`
)

// formOf: a pattern of a whole line, in which a space is any blanks.
func formOf(form string) *regexp.Regexp {
	return regexp.MustCompile(`\A[ \t]*` + strings.ReplaceAll(form, " ", `[ \t]+`) + `[ \t]*\z`)
}

// Blanks stand in texts, too, so that input's pattern is written out.
var (
	aText   = regexp.MustCompile(`\A` + text + `\z`)
	aNumber = formOf(`(step|tick|fault) ` + number)
	anInput = regexp.MustCompile(`\A[ \t]*input[ \t]+` + text + `[ \t]*\z`)
	aReg    = formOf(`reg x(0|[1-9]|[12][0-9]|3[01])`)
	aCsr    = formOf(`csr ([0-9a-z]+)`)
	aPiece  = formOf(`(mem|list) ` + number + ` ` + number)
	aSector = formOf(`sector ` + number)
	aWord   = formOf(`(pc|out|state)`)
)

// value: of a number's text; false: it has more than 64 bits.
func value(s string) (uint64, bool) {
	digits, is := strings.CutPrefix(s, "0x")
	base := 10
	if is {
		base = 16
	}
	n, ok := new(big.Int).SetString(digits, base)
	if !ok || !n.IsUint64() {
		return 0, false
	}
	return n.Uint64(), true
}

// unquoted: the bytes of a text that is one; of these texts the language's own have the same.
func unquoted(s string) ([]byte, bool) {
	if !aText.MatchString(s) {
		return nil, false
	}
	got, e := strconv.Unquote(s)
	return []byte(got), e == nil
}

// happening: a line's event, by its pattern.
func happening(line string) (api.Event, bool) {
	if c := aNumber.FindStringSubmatch(line); c != nil {
		n, ok := value(c[2])
		return api.Event{Kind: map[string]int{"step": 1, "tick": 2, "fault": 4}[c[1]], Arg: n}, ok
	}
	if c := anInput.FindStringSubmatch(line); c != nil {
		data, ok := unquoted(c[1])
		return api.Event{Kind: 3, Data: data}, ok
	}
	return api.Event{}, false
}

// model is a machine, of which lines ask as the chapter says.
type model struct{ *machine.Machine }

func (x model) do(line string) string {
	if e, ok := happening(line); ok {
		if no := x.Machine.Do(e); no != 0 {
			return fmt.Sprintf("error %d", no)
		}
		return "ok"
	}
	if c := aReg.FindStringSubmatch(line); c != nil {
		n, _ := strconv.Atoi(c[1])
		return fmt.Sprintf("%#x", x.X[n])
	}
	if c := aCsr.FindStringSubmatch(line); c != nil {
		for _, r := range systems {
			if r.name == c[1] || fmt.Sprintf("%#x", r.number) == c[1] {
				return fmt.Sprintf("%#x", x.CSR.Read(r.number))
			}
		}
	}
	if c := aPiece.FindStringSubmatch(line); c != nil {
		at, one := value(c[2])
		n, two := value(c[3])
		if one && two {
			return x.piece(c[1], at, n)
		}
	}
	if c := aSector.FindStringSubmatch(line); c != nil {
		if n, ok := value(c[1]); ok {
			if data, is := x.Disk().Sector(n); is {
				return quoted(data)
			}
			return "error 131"
		}
	}
	if c := aWord.FindStringSubmatch(line); c != nil {
		return x.word(c[1])
	}
	return "error 240"
}

func (x model) piece(name string, at, n uint64) string {
	bytes := n
	if name == "list" {
		bytes = 4 * n
	}
	if n > 4096 || bytes > 1024 && name == "list" {
		return "error 240"
	}
	data, ok := x.Read(at, bytes)
	if !ok {
		return "error 21"
	}
	if name == "mem" {
		return quoted(data)
	}
	var out []string
	for ; len(data) > 0; data = data[4:] {
		w := uint32(data[0]) | uint32(data[1])<<8 | uint32(data[2])<<16 | uint32(data[3])<<24
		if i, e := inst.Decode(w); e == 0 {
			out = append(out, asm.Print(i))
		} else {
			out = append(out, fmt.Sprintf("%#x", w))
		}
	}
	return strings.Join(out, "; ")
}

func (x model) word(name string) string {
	switch name {
	case "pc":
		return fmt.Sprintf("%#x", x.PC)
	case "out":
		return quoted(x.TTY.Output())
	}
	flags := []byte("---")
	for i, is := range []bool{x.Waits, x.Blk.Bits&68 == 4, x.TTY.Bits&68 == 4} {
		if is {
			flags[i] = "wbt"[i]
		}
	}
	return fmt.Sprintf("mode %d, pc %#x, steps %d, done %d, time %#x, lines %#x, flags %s", x.CSR.Mode, x.PC, x.Steps(), int64(x.CSR.Instret), x.Clint.Now, x.Clint.Lines()|x.Plic.Lines(), flags)
}

// one: of several, any.
func one[T any](chance *rand.Rand, list ...T) T { return list[chance.Intn(len(list))] }

// someNumber: a text of one, or seldom of none.
func someNumber(chance *rand.Rand, list ...uint64) string {
	n := chance.Uint64() >> chance.Intn(64)
	if len(list) > 0 && chance.Intn(6) > 0 {
		n = one(chance, list...)
	}
	return fmt.Sprintf(one(chance, "%d", "%#x", "%#x", "00%d", "0x0%x", "%#x", one(chance, "%x", "%d0", "-%d", "%X", "x%d", "%d %d", "18446744073709551616")), n)
}

// someText: quoted bytes, or seldom none.
func someText(chance *rand.Rand) string {
	data := make([]byte, chance.Intn(6))
	for i := range data {
		data[i] = one(chance, byte(chance.Intn(256)), byte(0x20+chance.Intn(0x5f)), '"', '\\', '\n', 'n', 'x')
	}
	s := one(chance, quoted(data), byDigits(data))
	switch chance.Intn(12) {
	case 0:
		return s[1:]
	case 1:
		return s[:len(s)-1]
	case 2:
		return `"` + string(data) + `"`
	case 3:
		return strings.ToUpper(s)
	case 4:
		return s + s
	}
	return s
}

// someRest: such as stands behind a name.
func someRest(chance *rand.Rand, name string) string {
	at := []uint64{base, base + 1, base + 4, base + 0x2000, base + size - 4, base + size - 1, base + size, blkQ, told, blkAt, 0}
	switch name {
	case "step":
		return someNumber(chance, 0, 1, 2, 3, 50, 65537)
	case "tick", "fault":
		return someNumber(chance, 0, 1, 2, 7, 100)
	case "input":
		return someText(chance)
	case "reg":
		return "x" + one(chance, strconv.Itoa(chance.Intn(34)), strconv.Itoa(chance.Intn(32)), "", "01", "-1")
	case "csr":
		r := one(chance, systems...)
		return one(chance, r.name, fmt.Sprintf("%#x", r.number), r.name[1:], strconv.Itoa(r.number), fmt.Sprintf("%#x", chance.Intn(4097)))
	case "mem":
		return someNumber(chance, at...) + one(chance, " ", " ", "\t", " \t ", "", ",") + someNumber(chance, 0, 1, 2, 4, 16, 4096, 4097)
	case "list":
		return someNumber(chance, at...) + one(chance, " ", " ", "\t", " \t ", "", ",") + someNumber(chance, 0, 1, 2, 4, 16, 256, 257)
	case "sector":
		return someNumber(chance, 0, 1, 3, 4, 65535)
	}
	return one(chance, "", "", "", "", " ", "0", "x")
}

// someLine: of each name, of which some aren't lines at all.
func someLine(chance *rand.Rand) string {
	name := one(chance, "step", "step", "tick", "fault", "input", "reg", "csr", "pc", "out", "mem", "list", "sector", "state", "state", "x", "")
	blank := func(list ...string) string { return one(chance, list...) }
	line := blank("", "", "", " ", "\t ") + name + blank(" ", " ", " ", "\t", "  \t", "") + someRest(chance, name) + blank("", "", "", " ", " \t")
	if chance.Intn(10) > 0 || line == "" {
		return line
	}
	// One byte of it is another, or isn't there, or stands there twice.
	i := chance.Intn(len(line))
	return line[:i] + one(chance, "", string([]byte{byte(chance.Intn(256))}), line[i:i+1]+line[i:i+1], "\n", "\r") + line[i+1:]
}

// someImage: a program that does something, or bytes that are nobody's.
func someImage(t *testing.T, chance *rand.Rand) []byte {
	return one(chance,
		image(t, "addi x1,x1,1", "sd x1,-8(x2)", "jal x0,-8"),
		image(t, "csrrwi x0,0x304,8", "wfi", "addi x1,x1,1", "ecall"),
		image(t, "csrrw x0,0xb02,x3", "mret"),
		pattern(chance.Intn(size+1), 5), nil)
}

// P24.1 to P24.5: sessions of many configs to which lines are told, held against machines of which they ask by patterns.
func TestAgainstAModel(t *testing.T) {
	chance := rand.New(rand.NewSource(24))
	answers := map[string]int{}
	for round := range 200 {
		c := config(someImage(t, chance))
		c.RAM = one[uint64](chance, size, size, 4096, 65536)
		c.Sectors = one[uint64](chance, 1, count, 65536)
		c.Image = c.Image[:min(uint64(len(c.Image)), c.RAM)]
		s := made(t, c)
		m, _ := machine.New(c)
		x := model{m}
		// Drivers work on both alike, or on neither.
		devices := chance.Intn(4)
		for _, m := range []*machine.Machine{s.Machine, m} {
			m.X[2], m.X[3] = base+1024, ones-20
			m.CSR.Mtvec, m.CSR.Mie = base, 0x88
			if devices&1 != 0 && c.RAM >= size {
				begins(m, blkAt, blkQ)
				asks(m, 1, 0)
			}
			if devices&2 != 0 && c.RAM >= size {
				begins(m, ttyAt, rxQ, txQ)
				transmits(m, 1, []byte("some text\n\"\\\x80"))
			}
			lets(m)
		}
		var lines, want []string
		for range 60 {
			line := someLine(chance)
			lines = append(lines, line)
			before := keepsOf(s.Machine)
			got := s.Do(line)
			want = append(want, x.do(line))
			if got != want[len(want)-1] {
				t.Fatalf("round %d: %q: %.200q, not %.200q", round, line, got, want[len(want)-1])
			}
			s.is(t, line, keepsOf(m))
			if _, is := happening(line); !is {
				s.is(t, line, before)
			}
			answers[one(chance, strings.Fields(got + " x")[0])]++
		}
		if one, two := s.Served(), m.Served(); !slices.Equal(one, two) {
			t.Fatalf("round %d: %+v were served, not %+v", round, one, two)
		}
		// To one to which nothing but this happened all of them may be told at once.
		if devices == 0 && c.RAM < size {
			again := made(t, c)
			again.X[2], again.X[3] = base+1024, ones-20
			again.CSR.Mtvec, again.CSR.Mie = base, 0x88
			lets(again.Machine)
			if got := again.Run(lines...); !slices.Equal(got, want) {
				t.Fatalf("round %d: Run: %q, not %q", round, got, want)
			}
		}
	}
	for _, a := range []string{"ok", "error", "mode", "0x0", `""`} {
		if answers[a] < 20 {
			t.Errorf("%d answers were %s: %v", answers[a], a, answers)
		}
	}
}

// P24.2: Event and Line of any lines, held against patterns.
func TestEventAgainstAModel(t *testing.T) {
	chance := rand.New(rand.NewSource(2))
	there := 0
	for range 60000 {
		line := someLine(chance)
		want, ok := happening(line)
		got, e := Event(line)
		if (e == 0) != ok || e != 0 && e != 240 || ok && !same(got, want) || !ok && (got.Kind != 0 || got.Arg != 0 || got.Data != nil) {
			t.Fatalf("Event(%q): %+v, %d, not %+v, %v", line, got, e, want, ok)
		}
		if !ok {
			continue
		}
		there++
		if again, e := Event(Line(got)); e != 0 || !same(again, got) {
			t.Fatalf("Event of Line of %+v: %+v, %d", got, again, e)
		}
	}
	if there < 5000 {
		t.Errorf("%d events", there)
	}
}

// P24.1, P24.4: Quote of any bytes, and Unquote of any texts, held against a pattern.
func TestQuoteAgainstAModel(t *testing.T) {
	chance := rand.New(rand.NewSource(1))
	read := 0
	for range 100000 {
		s := make([]byte, chance.Intn(12))
		for i := range s {
			s[i] = one(chance, '"', '\\', '\\', 'x', 'n', '4', 'a', 'F', ' ', '~', '\n', 0x7f, 0xff, byte(chance.Intn(256)))
		}
		if got := Quote(s); got != quoted(s) {
			t.Fatalf("Quote(%q): %q", s, got)
		}
		reads(t, Quote(s), s)
		line := one(chance, string(s), `"`+string(s)+`"`, `"`+string(s)+`"`)
		want, ok := unquoted(line)
		got, is := Unquote(line)
		if is != ok || string(got) != string(want) || !is && got != nil {
			t.Fatalf("Unquote(%q): %q, %v, not %q, %v", line, got, is, want, ok)
		}
		if ok {
			read++
		}
	}
	if read < 5000 {
		t.Errorf("%d texts were read", read)
	}
}

// P24.2: Events of any texts, held against the lines that the library cuts.
func TestEventsAgainstAModel(t *testing.T) {
	chance := rand.New(rand.NewSource(3))
	whole, none := 0, 0
	for range 20000 {
		var s string
		for range chance.Intn(6) {
			line := someLine(chance)
			if _, ok := happening(line); !ok && chance.Intn(10) > 0 {
				line = one(chance, "", " ", "\r", "#", " # "+line, "#"+line)
			}
			s += line + one(chance, "\n", "\n", "\n", "\r\n", "\n\n", "\r", "", "\n \r\t\n")
		}
		want, ok, at := events(s)
		got, e, n := Events(s)
		if (e == 0) != ok || e != 0 && e != 240 || n != at || !slices.EqualFunc(got, want, same) {
			t.Fatalf("Events(%q): %+v, %d, %d, not %+v, %v, %d", s, got, e, n, want, ok, at)
		}
		if !ok {
			none++
		} else if len(got) > 1 {
			whole++
		}
	}
	if whole < 1000 || none < 1000 {
		t.Errorf("%d texts had events, %d none", whole, none)
	}
}

// events: those of a text; else the number of the line that has none.
func events(s string) ([]api.Event, bool, int) {
	ends := regexp.MustCompile(`\A[ \t\r\n]+|[ \t\r\n]+\z`)
	var out []api.Event
	for n, line := range strings.Split(s, "\n") {
		line = ends.ReplaceAllString(line, "")
		if line == "" || strings.HasPrefix(line, "#") {
			continue
		}
		e, ok := happening(line)
		if !ok {
			return nil, false, n
		}
		out = append(out, e)
	}
	return out, true, 0
}
