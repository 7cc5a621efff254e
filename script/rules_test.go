package script

import (
	"bytes"
	"math"
	"math/rand"
	"slices"
	"strings"
	"testing"

	"vireo/api"
	"vireo/machine"
)

// P1: a nil session, as New answers it beside an error, is none: no line is one of its own.
func TestNone(t *testing.T) {
	s, e := New(machine.Config{})
	if s != nil || e != 20 {
		t.Fatalf("New of nothing: %v, %d", s, e)
	}
	for _, line := range append(slices.Clone(asked), "step 1", "tick 1", `input "a"`, "fault 1", "step 65537") {
		s.says(t, line, "error 240")
	}
	if got := s.Run("pc", "step 1"); !slices.Equal(got, []string{"error 240", "error 240"}) {
		t.Errorf("Run: %q", got)
	}
	if got := s.Run(); len(got) != 0 {
		t.Errorf("Run of nothing: %q", got)
	}
}

// P1: lines and texts of any bytes: each call ends, and none panics.
func TestAnyBytes(t *testing.T) {
	chance := rand.New(rand.NewSource(4))
	s := works(t)
	names := []string{"step ", "tick ", "input ", "fault ", "reg ", "csr ", "pc", "out", "mem ", "list ", "sector ", "state", `input "`, "mem 0x8", "list 0x8", "", " ", "\t"}
	for range 20000 {
		line := make([]byte, chance.Intn(30))
		chance.Read(line)
		if chance.Intn(2) == 0 {
			for i := range line {
				line[i] = one(chance, []byte(" \t\n\r\\\"x0123456789abcdefn#")...)
			}
		}
		all := one(chance, names...) + string(line)
		if e, no := Event(all); no == api.OK && e.Kind == 1 && e.Arg > 100 && e.Arg <= 65536 {
			continue // it would take long
		}
		s.Do(all)
		s.Run(all, all)
		Events(all)
		Events(strings.Repeat(all+"\n", 3))
		Unquote(all)
		Quote([]byte(all))
	}
	for _, kind := range []int{math.MinInt, -1, 0, 5, math.MaxInt} {
		Line(api.Event{Kind: kind})
	}
	s.Do("state")
}

// P1: any config, as machine.New takes it.
func TestAnyConfig(t *testing.T) {
	chance := rand.New(rand.NewSource(5))
	some := func() uint64 {
		return one(chance, 0, 1, 4096, 8192, 65536, 1<<28, top, ones, chance.Uint64()>>chance.Intn(64))
	}
	for range 2000 {
		c := machine.Config{RAM: some(), Sectors: some(), Locked: chance.Intn(2) == 0, Disk: make([]byte, chance.Intn(5000)), Image: make([]byte, chance.Intn(9000)), Name: string(pattern(chance.Intn(40), 1))}
		_, want := machine.New(c)
		s, e := New(c)
		if e != want || (s == nil) != (e != api.OK) {
			t.Fatalf("New: %v, %d, not %d", s != nil, e, want)
		}
		if s != nil {
			s.Run("step 3", "state", "list 0x80000000 3", "sector 0")
		}
	}
}

// P2, rule 4: what New is given may change behind it, and the session doesn't; nor is it changed, nor its spare room.
func TestNewKeepsNothing(t *testing.T) {
	program := image(t, "addi x1,x1,1", "sd x1,0(x2)", "jal x0,-8")
	room := append(make([]byte, 0, 100), program...)
	spare := append(make([]byte, 0, 5000), onDisk...)
	c := machine.Config{RAM: size, Sectors: count + 1, Image: room, Disk: spare, Name: "a disk"}
	s := made(t, c)
	c.Image, c.Disk = slices.Clone(program), slices.Clone(onDisk)
	other := made(t, c)
	for _, list := range [][]byte{room[:cap(room)], spare[:cap(spare)]} {
		for i := range list {
			list[i] = 0xee
		}
	}
	s.X[2], other.X[2] = base+0x100, base+0x100
	lines := []string{"list 0x80000000 4", "sector 0", "sector 4", "step 9", "state", "mem 0x80000000 512"}
	if one, two := s.Run(lines...), other.Run(lines...); !slices.Equal(one, two) {
		t.Errorf("%q, and %q", one, two)
	}
	s.is(t, "what was handed in has changed", keepsOf(other.Machine))
	for _, list := range [][]byte{room[:cap(room)], spare[:cap(spare)]} {
		if !bytes.Equal(list, bytes.Repeat([]byte{0xee}, len(list))) {
			t.Errorf("what was handed in is changed by the session")
		}
	}
}

// P2, rule 4: lists that are handed in stay as they are, with their spare room.
func TestListsStay(t *testing.T) {
	data := append(make([]byte, 0, 20), "a\n\"\x80"...)
	copy(data[4:20], "spare room spare")
	if Quote(data) != `"a\n\"\x80"` || Line(api.Event{Kind: 3, Data: data}) != `input "a\n\"\x80"` {
		t.Errorf("%s", Quote(data))
	}
	if string(data[:20]) != "a\n\"\x80spare room spare" {
		t.Errorf("the bytes are %q", data[:20])
	}
	lines := append(make([]string, 0, 5), " step 1 ", "pc", "x")
	copy(lines[3:5], []string{"spare", "room"})
	s := does(t, "jal x0,0")
	got := s.Run(lines...)
	if !slices.Equal(lines[:5], []string{" step 1 ", "pc", "x", "spare", "room"}) {
		t.Errorf("the lines are %q", lines[:5])
	}
	// Nor are they kept.
	got[0], got[1] = "changed", "changed"
	got = append(got, "more")
	lines[1] = "reg x0"
	if again := s.Run(lines...); !slices.Equal(again, []string{"ok", "0x0", "error 240"}) || len(got) != 4 {
		t.Errorf("%q", again)
	}
}

// P2, rule 4: what is answered is new memory.
func TestAnswersAreNew(t *testing.T) {
	spoil := func(list []byte) {
		list = list[:cap(list)]
		for i := range list {
			list[i] = 0x55
		}
	}
	for _, text := range []string{"a", "some text", strings.Repeat("x", 5000)} {
		line := `input "` + text + `"`
		first, _ := Unquote(`"` + text + `"`)
		second, _ := Unquote(`"` + text + `"`)
		one, _ := Event(line)
		two, _ := Event(line)
		list, _, _ := Events(line + "\n" + line + "\n" + line)
		again, _, _ := Events(line + "\n" + line + "\n" + line)
		for _, data := range [][]byte{second, two.Data, list[0].Data, list[2].Data} {
			spoil(data)
		}
		for _, data := range [][]byte{first, one.Data, list[1].Data, again[0].Data, again[1].Data, again[2].Data} {
			if string(data) != text {
				t.Fatalf("answers share memory: %.80q", data)
			}
		}
		list = list[:cap(list)]
		for i := range list {
			list[i] = api.Event{}
		}
		if again[0].Kind != 3 || again[2].Kind != 3 {
			t.Errorf("lists share memory")
		}
	}
}

// P2, rule 4: an event that came by a line hangs on no list that the caller has.
func TestDoKeepsNothing(t *testing.T) {
	s := does(t)
	data := []byte("some text")
	line := "input " + Quote(data)
	s.says(t, line, "ok")
	copy(data, "other one")
	if got := s.TTY.Input().Peek(99); string(got) != "some text" {
		t.Errorf("%q waits", got)
	}
	out := s.Run("out", "sector 0")
	if again := s.Run("out", "sector 0"); !slices.Equal(out, again) {
		t.Errorf("%q, then %q", out, again)
	}
}
