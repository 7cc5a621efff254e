package script

import (
	"slices"
	"strings"
	"testing"

	"vireo/api"
	"vireo/machine"
	"vireo/ram"
)

// asked is lines of which none is an event's: of each name, with what there is and what there isn't, and of none.
var asked = []string{
	"reg x0", "reg x1", "reg x31", "reg x32", "reg", "csr mip", "csr sip", "csr 0x344", "csr mcycle", "csr time", "csr satp", "csr x", "csr", "pc", "pc 1", "out", "out 1", "state", "state 1",
	"mem 0x80000000 0", "mem 0x80000000 1", "mem 0x80000000 4096", "mem 0x80000000 4097", "mem 0x80003fff 1", "mem 0x80004000 1", "mem 0x80001000 4096", "mem 0xc200004 4", "mem 0xc201004 4", "mem 0x10001070 4", "mem 0x10002070 1", "mem 0x2000000 4", "mem", "mem 1",
	"list 0x80000000 0", "list 0x80000000 1", "list 0x80000000 256", "list 0x80000000 257", "list 0x80000003 3", "list 0x80003ffd 1", "list 0xc200004 1", "list 0xc201004 1", "list 0x10001060 1", "list",
	"sector 0", "sector 3", "sector 4", "sector 65536", "sector", "sector x",
	"", " ", "x", "step", "step x", "step -1", "step 1 1", "step 18446744073709551616", "Step 1", "tick", "tick x", "fault", "fault x", "input", "input a", `input "a`, `input "a" 1`, `input "\X"`, "step1", "step 1\n", "#step 1", "run", "\x00\xff",
}

// at: sessions at several places.
func at(t *testing.T) []*Session {
	t.Helper()
	waits := does(t, "wfi")
	waits.Run("step 3", "tick 5", `input "abc"`)
	user := does(t, "mret")
	user.CSR.Mepc = base + 0x100
	user.Run("step 1", "fault 1")
	lost := does(t)
	lost.Run("step 5", `input "`+strings.Repeat("a", 5000)+`"`, "tick 0xffffffffffffffff")
	return []*Session{does(t), works(t), waits, user, lost}
}

// P24.5: what isn't an event's line changes nothing: neither the machine, nor what it was told to fail, nor the log of one who watches its memory, nor what is served.
func TestAsksChangeNothing(t *testing.T) {
	others := at(t)
	for i, s := range at(t) {
		var log ram.Log
		s.Watch(&log)
		want := keepsOf(s.Machine)
		for _, line := range asked {
			if _, e := Event(line); e == api.OK {
				t.Fatalf("%q is an event's", line)
			}
			first := s.Do(line)
			s.is(t, line, want)
			if second := s.Do(line); first != second {
				t.Errorf("%q: %.80s, then %.80s", line, first, second)
			}
		}
		s.Run(asked...)
		s.is(t, "Run", want)
		if len(log.Writes) != 0 || len(log.Reads) != 0 {
			t.Errorf("the memory was written %d times, and read %d times", len(log.Writes), len(log.Reads))
		}
		s.Watch(nil)
		// What happens behind it is the same, and what was served, too.
		other := others[i]
		if one, two := s.Served(), other.Served(); !slices.Equal(one, two) {
			t.Errorf("%+v were served, and %+v", one, two)
		}
		for _, line := range []string{"step 100", "tick 3", `input "a"`, "fault 2", "step 5"} {
			for _, x := range asked {
				s.Do(x)
			}
			if one, two := s.Do(line), other.Do(line); one != two {
				t.Errorf("%s: %s, and %s", line, one, two)
			}
			s.is(t, line, keepsOf(other.Machine))
		}
	}
}

// P24.5: an event's line that the machine refuses changes nothing, either.
func TestRefusedEvents(t *testing.T) {
	for _, s := range at(t) {
		want := keepsOf(s.Machine)
		s.each(t, [2]string{"step 65537", "error 1"}, [2]string{"step 0xffffffffffffffff", "error 1"}, [2]string{`input "` + strings.Repeat("a", 65537) + `"`, "error 2"})
		s.is(t, "what is refused", want)
	}
}

// Of two sessions neither changes the other, though both were made of one config.
func TestNeitherChangesTheOther(t *testing.T) {
	c := config(image(t, "addi x1,x1,1", "sd x1,1024(x2)", "jal x0,-8"))
	s, other := made(t, c), made(t, c)
	want, state := keepsOf(other.Machine), other.Do("state")
	s.X[2], other.X[2] = base, base
	want.hart.X[2] = base
	begins(s.Machine, ttyAt, rxQ, txQ)
	transmits(s.Machine, 1, []byte("a"))
	s.Run("step 50", "tick 9", `input "abc"`, "fault 1", "csr mip", "mem 0x80000000 4096", "sector 0")
	s.Disk().Fill([]byte("x"))
	other.is(t, "what happens to another session", want)
	other.each(t, [2]string{"state", state}, [2]string{"reg x1", "0x0"}, [2]string{"out", `""`}, [2]string{"sector 0", quoted(onDisk[:512])}, [2]string{"mem 0x80000400 8", quoted(make([]byte, 8))})
	third := made(t, c)
	third.X[2] = base
	lines := []string{"step 50", "state", "reg x1", "mem 0x80000400 8", "out"}
	if one, two := other.Run(lines...), third.Run(lines...); !slices.Equal(one, two) {
		t.Errorf("%q, and %q", one, two)
	}
	other.is(t, "a session that was made behind it", keepsOf(third.Machine))
}

// The same lines to two sessions of one config are answered alike, and to one whose machine is given it.
func TestAlike(t *testing.T) {
	s, other := works(t), works(t)
	m, e := machine.New(config(image(t, "addi x1,x1,1", "jal x0,-4")))
	if e != api.OK {
		t.Fatalf("machine.New: %d", e)
	}
	given := &Session{Machine: m}
	given.each(t, [2]string{"step 3", "ok"}, [2]string{"reg x1", "0x2"})
	if m.Steps() != 3 {
		t.Errorf("%d steps", m.Steps())
	}
	for range 3 {
		for _, line := range append(slices.Clone(asked), "step 7", "tick 9", `input "text"`, "fault 3") {
			if one, two := s.Do(line), other.Do(line); one != two {
				t.Errorf("%q: %s, and %s", line, one, two)
			}
		}
		s.is(t, "the same lines", keepsOf(other.Machine))
	}
}
