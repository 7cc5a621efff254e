package script

import (
	"bytes"
	"math"
	"strings"
	"testing"

	"vireo/api"
)

// same: are two events alike?
func same(a, b api.Event) bool {
	return a.Kind == b.Kind && a.Arg == b.Arg && bytes.Equal(a.Data, b.Data)
}

// event: a line's is just this one.
func event(t *testing.T, line string, want api.Event) {
	t.Helper()
	if got, e := Event(line); e != 0 || !same(got, want) {
		t.Errorf("Event(%.80q): %+v, %d, not %+v", line, got, e, want)
	}
}

// noEvent: a line has none.
func noEvent(t *testing.T, line string) {
	t.Helper()
	if got, e := Event(line); e != 240 || got.Kind != 0 || got.Arg != 0 || got.Data != nil {
		t.Errorf("Event(%.80q): %+v, %d", line, got, e)
	}
}

// The names of the events that have a number, and their kinds.
var numbered = []struct {
	name string
	kind int
}{{"step", 1}, {"tick", 2}, {"fault", 4}}

// P24.2: the events that have a number, of each kind of number that word.Parse reads, with blanks anywhere.
func TestEventsWithANumber(t *testing.T) {
	for _, c := range numbered {
		for text, n := range map[string]uint64{
			"0": 0, "1": 1, "10": 10, "007": 7, "65536": 65536, "65537": 65537, "0x0": 0, "0x10": 16, "0xff": 255, "0x00ff": 255, "0x123456789abcdef0": 0x123456789abcdef0,
			"18446744073709551615": ones, "0xffffffffffffffff": ones, "9223372036854775808": top, strings.Repeat("0", 300) + "5": 5,
		} {
			want := api.Event{Kind: c.kind, Arg: n}
			for _, line := range []string{
				c.name + " " + text, c.name + "\t" + text, " " + c.name + " " + text, "\t" + c.name + " " + text, c.name + " " + text + " ", c.name + " " + text + "\t",
				"  \t " + c.name + " \t\t  " + text + " \t \t", c.name + strings.Repeat(" ", 5000) + text,
			} {
				event(t, line, want)
			}
		}
	}
}

// P24.2: what has no number that word.Parse reads: nothing, two of them, one that is too great, texts that are none.
func TestEventsWithoutANumber(t *testing.T) {
	for _, c := range numbered {
		for _, rest := range []string{
			"", "1 2", "1\t2", "1 x", "x 1", "18446744073709551616", "0x10000000000000000", "-1", "-0", "+1", "0x", "0xF", "0X1", "1f", "x1", "one", "1,2", "1.0", `"1"`, `""`, "1#", "# 1", "1\n", "1\r", "\n1", "\r1", "\v1", "1\f", "\u00a01", "1\x00", "\u0661", "1;",
		} {
			for _, line := range []string{c.name + " " + rest, c.name + "\t" + rest + " ", "  " + c.name + "  " + rest} {
				noEvent(t, line)
			}
		}
		noEvent(t, c.name)
		noEvent(t, c.name+" ")
		noEvent(t, "\t"+c.name)
	}
}

// P24.2: input, with each kind of rest.
func TestInput(t *testing.T) {
	for rest, data := range map[string]string{
		`""`: "", `"a"`: "a", `" "`: " ", `"  a  "`: "  a  ", `"a b"`: "a b", `"a\nb"`: "a\nb", `"\""`: `"`, `"\\"`: `\`, `"\x00\xff"`: "\x00\xff", `"#"`: "#", `"step 1"`: "step 1",
		quoted(all()): string(all()), byDigits(all()): string(all()),
	} {
		want := api.Event{Kind: 3, Data: []byte(data)}
		for _, line := range []string{"input " + rest, "input\t" + rest, " \tinput \t " + rest + " \t"} {
			event(t, line, want)
		}
		noEvent(t, "input"+rest)
		noEvent(t, "input"+rest+" "+rest)
	}
	// More than the machine takes is an event, too.
	long := strings.Repeat("a", 70000)
	event(t, `input "`+long+`"`, api.Event{Kind: 3, Data: []byte(long)})
	for _, rest := range []string{"", "a", "1", "0x1", `"`, `"a`, `a"`, `"a" "b"`, `"a"b`, `"a" 1`, `1 "a"`, `"""`, `"\"`, `"\x4"`, `"\X41"`, "\"\t\"", "\"\n\"", `"a"` + "\n", `"a"` + "\r", "\r" + `"a"`, `'a'`} {
		noEvent(t, "input "+rest)
		noEvent(t, " input\t"+rest+" ")
	}
	noEvent(t, "input")
	noEvent(t, "input ")
}

// P24.2: names that are none, and lines without one.
func TestNamesOfNoEvent(t *testing.T) {
	for _, name := range []string{
		"", "s", "ste", "steps", "stepp", "tep", "Step", "STEP", "stEp", "tic", "ticks", "Tick", "TICK", "faul", "faults", "Fault", "FAULT", "inpu", "inputs", "Input", "INPUT", "nput",
		"reg", "csr", "pc", "out", "mem", "list", "sector", "state", "event", "1", "0x1", "#", "#step", "step,", "step:", "step=", "\"step\"", "st\u00e9p", "step\x00", "\x00step", "\nstep", "\rstep", "step\n", "step\v", "step\u00a0",
	} {
		for _, rest := range []string{"", " ", "\t", " 1", "\t1", " 0x1", ` "a"`, " 1 2"} {
			noEvent(t, name+rest)
			noEvent(t, " \t"+name+rest)
		}
	}
	for _, line := range []string{"", " ", "\t", " \t \t", "\n", "\r\n", "1", "step1", "step0x1", `input""`, "1 step", `"a" input`, "step1 1", strings.Repeat(" ", 70000)} {
		noEvent(t, line)
	}
}

// P24.2: the line of each kind of event, with the least and the greatest Arg, and with both; of kinds that are none nothing.
func TestLine(t *testing.T) {
	for _, c := range []struct {
		e    api.Event
		want string
	}{
		{api.Event{Kind: 1}, "step 0x0"},
		{api.Event{Kind: 1, Arg: 7}, "step 0x7"},
		{api.Event{Kind: 1, Arg: 65537}, "step 0x10001"},
		{api.Event{Kind: 1, Arg: ones}, "step 0xffffffffffffffff"},
		{api.Event{Kind: 1, Arg: 1, Data: []byte("a")}, "step 0x1"},
		{api.Event{Kind: 2}, "tick 0x0"},
		{api.Event{Kind: 2, Arg: 0xabcdef}, "tick 0xabcdef"},
		{api.Event{Kind: 2, Arg: ones}, "tick 0xffffffffffffffff"},
		{api.Event{Kind: 3}, `input ""`},
		{api.Event{Kind: 3, Arg: ones}, `input ""`},
		{api.Event{Kind: 3, Arg: 5, Data: []byte("a\nb\"")}, `input "a\nb\""`},
		{api.Event{Kind: 3, Data: all()}, "input " + quoted(all())},
		{api.Event{Kind: 3, Data: make([]byte, 65537)}, "input " + quoted(make([]byte, 65537))},
		{api.Event{Kind: 4}, "fault 0x0"},
		{api.Event{Kind: 4, Arg: 1, Data: []byte("a")}, "fault 0x1"},
		{api.Event{Kind: 4, Arg: ones}, "fault 0xffffffffffffffff"},
		{api.Event{}, ""},
		{api.Event{Arg: ones, Data: []byte("a")}, ""},
	} {
		if got := Line(c.e); got != c.want {
			t.Errorf("Line(%+v): %.80s, not %.80s", c.e, got, c.want)
		}
	}
	for _, kind := range []int{0, 5, 6, 7, 9, 100, 1 << 32, 1<<32 + 1, 1<<32 + 3, -1, -2, -3, -4, math.MinInt, math.MinInt + 1, math.MaxInt, math.MaxInt - 1} {
		for _, e := range []api.Event{{Kind: kind}, {Kind: kind, Arg: ones}, {Kind: kind, Arg: 1, Data: []byte("a")}} {
			if got := Line(e); got != "" {
				t.Errorf("Line(%+v): %s", e, got)
			}
		}
	}
}

// P24.4: Event of Line is the event, as Event tells such a one.
func TestEventOfLine(t *testing.T) {
	for _, c := range numbered {
		for _, n := range []uint64{0, 1, 9, 10, 15, 16, 65536, 65537, 1 << 32, top - 1, top, ones - 1, ones} {
			event(t, Line(api.Event{Kind: c.kind, Arg: n}), api.Event{Kind: c.kind, Arg: n})
			event(t, Line(api.Event{Kind: c.kind, Arg: n, Data: []byte("a")}), api.Event{Kind: c.kind, Arg: n})
		}
	}
	for n := range 256 {
		for _, data := range [][]byte{all()[:n], all()[n:], {byte(n)}, bytes.Repeat([]byte{byte(n)}, n)} {
			event(t, Line(api.Event{Kind: 3, Data: data}), api.Event{Kind: 3, Data: data})
			event(t, Line(api.Event{Kind: 3, Arg: 5, Data: data}), api.Event{Kind: 3, Data: data})
			reads(t, Quote(data), data)
		}
	}
	noEvent(t, Line(api.Event{}))
	noEvent(t, Line(api.Event{Kind: 5, Arg: 1}))
}

// P24.2: texts with their events.
func TestEvents(t *testing.T) {
	step := api.Event{Kind: 1, Arg: 1}
	tick := api.Event{Kind: 2, Arg: 16}
	text := api.Event{Kind: 3, Data: []byte("a\nb")}
	fault := api.Event{Kind: 4}
	for _, c := range []struct {
		text string
		want []api.Event
	}{
		{"", nil},
		{"\n", nil},
		{"\n\n\n", nil},
		{"\r\n", nil},
		{"\r", nil},
		{" \t\n\t \r\n \r \t\r", nil},
		{"#", nil},
		{"# step 1", nil},
		{"#step 1\n", nil},
		{"  \t# any text \"\x00\xff\n\t\r #\n", nil},
		{"step 1", []api.Event{step}},
		{"step 1\n", []api.Event{step}},
		{"step 1\r\n", []api.Event{step}},
		{"step 1\r", []api.Event{step}},
		{"\rstep 1", []api.Event{step}},
		{" \t\r \tstep \t 1 \r\t\r ", []api.Event{step}},
		{"\n\n\nstep 1\n\n\n", []api.Event{step}},
		{"step 1\n\n# step 2\nstep 1", []api.Event{step, step}},
		{"step 1\ntick 0x10\ninput \"a\\nb\"\nfault 0\n", []api.Event{step, tick, text, fault}},
		{"step 1\r\ntick 0x10\r\ninput \"a\\nb\"\r\nfault 0\r\n", []api.Event{step, tick, text, fault}},
		{"# all of them\n step 1\n\ttick 16\n\n  # text\n input  \"\\x61\\x0a\\x62\" \r\n\r\n  \r\nfault 00", []api.Event{step, tick, text, fault}},
		{"step 1\n" + strings.Repeat("# text\n\n", 3000) + "fault 0", []api.Event{step, fault}},
		{"input \"#\"\n#input \"a\"", []api.Event{{Kind: 3, Data: []byte("#")}}},
		{"input \"  \"", []api.Event{{Kind: 3, Data: []byte("  ")}}},
		{"step 65537\n", []api.Event{{Kind: 1, Arg: 65537}}},
	} {
		got, e, n := Events(c.text)
		if e != 0 || n != 0 || len(got) != len(c.want) {
			t.Errorf("Events(%.80q): %d of them, %d, %d", c.text, len(got), e, n)
			continue
		}
		for i := range got {
			if !same(got[i], c.want[i]) {
				t.Errorf("Events(%.80q): the event %d is %+v, not %+v", c.text, i, got[i], c.want[i])
			}
		}
	}
}

// P24.2: texts of which a line is none: its number counts those that are left out, and there are no events.
func TestEventsOfNone(t *testing.T) {
	for _, c := range []struct {
		text string
		n    int
	}{
		{"x", 0},
		{"x\n", 0},
		{"step\nstep 1", 0},
		{"step 1 # text", 0},
		{"step 1\nstep\nstep 1", 1},
		{"step 1\nstep 1\nstep", 2},
		{"step 1\nstep 1\nstep\n", 2},
		{"x\ny\nz", 0},
		{"step 1\ny\nz", 1},
		{"\n\n\nx", 3},
		{"\r\n \t\n# text\n#\nx\nstep 1", 4},
		{"step 1\n\n# text\nstep 1\n\nx\n\n", 5},
		{"step 1\rstep 1", 0},
		{"step 1\nstep 1\r\r\ntick\r1\n", 2},
		{"step 1\n\vstep 1", 1},
		{"step 1\f\nstep 1", 0},
		{"step 1\n\u00a0", 1},
		{"step 1\x00\n", 0},
		{"\x00", 0},
		{"step 1\n \x00 ", 1},
		{"step 1;step 1", 0},
		{"input \"a\nb\"", 0},
		{"step 1\ninput \"a\nb\"", 1},
		{"pc", 0},
		{"step 1\nreg x1", 1},
		{"; text", 0},
		{"// text", 0},
		{strings.Repeat("step 1\n", 70000) + "step", 70000},
		{strings.Repeat("\n", 70000) + "x\n", 70000},
	} {
		if got, e, n := Events(c.text); e != 240 || n != c.n || len(got) != 0 {
			t.Errorf("Events(%.80q): %d of them, %d, %d, not the line %d", c.text, len(got), e, n, c.n)
		}
	}
}
