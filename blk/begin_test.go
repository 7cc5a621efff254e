package blk

import (
	"bytes"
	"math"
	"reflect"
	"strings"
	"testing"

	"vireo/api"
	"vireo/disk"
	"vireo/queue"
	"vireo/vmmio"
)

// P19.1: the registers of a device of kind 2: the features, one queue, what it tells of itself; all else is zero.
func TestNew(t *testing.T) {
	for count, space := range map[uint64][]byte{
		1:     {1, 0, 0, 0, 0, 0, 0, 0},
		255:   {255, 0, 0, 0, 0, 0, 0, 0},
		513:   {1, 2, 0, 0, 0, 0, 0, 0},
		65536: {0, 0, 1, 0, 0, 0, 0, 0},
	} {
		for locked, offered := range map[bool]uint64{false: 1<<32 | 1<<29 | 1<<28 | 1<<9, true: 1<<32 | 1<<29 | 1<<28 | 1<<9 | 1<<5} {
			m := memory(t, page)
			d, _ := disk.New(count, locked)
			b := New(m, d, "a name")
			regs := vmmio.Regs{ID: 2, Offered: offered, Queues: make([]queue.Queue, 1), Space: space}
			if !reflect.DeepEqual(*b.Regs, regs) {
				t.Errorf("of %d sectors, %v: %+v, not %+v", count, locked, *b.Regs, regs)
			}
			if b.Disk() != d {
				t.Errorf("Disk is another one")
			}
			if len(b.Log()) != 0 || d.Requests() != 0 || d.Flushes() != 0 {
				t.Errorf("something was served")
			}
		}
	}
	if ID != 2 || HeadSize != 16 || NameSize != 20 {
		t.Errorf("ID %d, HeadSize %d, NameSize %d", ID, HeadSize, NameSize)
	}
}

// P19.1: what a driver reads in the registers, whose calls the device promotes.
func TestWhatADriverReads(t *testing.T) {
	x := over(t, 0x305, true)
	for _, r := range []struct {
		at   uint64
		n    int
		want uint64
	}{
		{0, 4, 0x74726976}, {4, 4, 2}, {8, 4, 2}, {0x34, 4, 256}, {0x70, 4, 0}, {0x60, 4, 0}, {0xfc, 4, 0},
		{0x10, 4, 0x30000220}, {0x100, 8, 0x305}, {0x100, 1, 5}, {0x101, 1, 3}, {0x102, 2, 0}, {0x108, 8, 0},
	} {
		if w, ok := x.b.Load(r.at, r.n); w != r.want || !ok {
			t.Errorf("Load(%#x, %d): %#x, %v", r.at, r.n, w, ok)
		}
	}
	x.b.Store(x.m, 0x14, 4, 1)
	if w, _ := x.b.Load(0x10, 4); w != 1 {
		t.Errorf("the high half of what is offered: %#x", w)
	}
	x.b.Store(x.m, 0x30, 4, 1)
	if w, _ := x.b.Load(0x34, 4); w != 0 {
		t.Errorf("there is a queue 1: %d", w)
	}
	if x.b.Live() || x.b.Line() || x.b.Has(ones) {
		t.Errorf("it begins as if a driver had spoken to it")
	}
}

// P19.1: the name are the first 20 bytes, 0 behind them, whatever bytes these are.
func TestNames(t *testing.T) {
	for _, name := range []string{
		"", "x", "vireo", strings.Repeat("n", 19), "01234567890123456789", "012345678901234567890", strings.Repeat("long", 1000),
		"\x00", "a\x00b", "\xff\xfe\x80", strings.Repeat("é", 9) + "xé", strings.Repeat("é", 15), strings.Repeat("\x00", 25) + "z",
	} {
		text := make([]byte, 20)
		for i := range text {
			if i < len(name) {
				text[i] = name[i]
			}
		}
		x := over(t, 1, false)
		x.b = New(x.m, x.d, name)
		x.serves(t, getID, 0, []api.Segment{reads(begins, 16), writes(data, 21)}, want{written: text})
		x.serves(t, getID, ones, []api.Segment{reads(begins, 16), writes(data, 21)}, want{written: text})
	}
}

// P19.1: the beginning of 16 bytes and more; fewer have none.
func TestParse(t *testing.T) {
	row := []byte{0x11, 0x22, 0x33, 0x44, 0x55, 0x66, 0x77, 0x88, 0x99, 0xaa, 0xbb, 0xcc, 0xdd, 0xee, 0xf0, 0x0f, 0x12, 0x34}
	head := Head{0x44332211, 0x0ff0eeddccbbaa99}
	for n := range len(row) + 1 {
		had := bytes.Clone(row)
		got, ok := Parse(had[:n])
		if n < 16 && (ok || got != Head{}) || n >= 16 && (!ok || got != head) {
			t.Errorf("Parse of %d bytes: %+v, %v", n, got, ok)
		}
		if !bytes.Equal(had, row) {
			t.Errorf("Parse of %d bytes has changed them", n)
		}
	}
	if got, ok := Parse(nil); ok || got != (Head{}) {
		t.Errorf("Parse of nothing: %+v, %v", got, ok)
	}
	if got, ok := Parse(append(bytes.Clone(row), make([]byte, 5000)...)); !ok || got != head {
		t.Errorf("Parse of many bytes: %+v, %v", got, ok)
	}
}

// P19.1: each byte of the kind and of the sector counts at its own place; the four between them, and those behind, don't count.
func TestParseByteByByte(t *testing.T) {
	for i := range 20 {
		for _, c := range []byte{1, 0x7f, 0x80, 0xff} {
			row := make([]byte, 20)
			row[i] = c
			want := Head{}
			switch {
			case i < 4:
				want.Kind = uint32(c) * uint32(math.Pow(256, float64(i)))
			case i >= 8 && i < 16:
				want.Sector = uint64(c)
				for range i - 8 {
					want.Sector *= 256
				}
			}
			if got, ok := Parse(row); !ok || got != want {
				t.Errorf("Parse with %#x at %d: %+v, %v, not %+v", c, i, got, ok, want)
			}
			for j := range row {
				row[j] = ^row[j]
			}
			want = Head{^want.Kind, ^want.Sector}
			if got, ok := Parse(row); !ok || got != want {
				t.Errorf("Parse with all but %#x at %d: %+v, %v, not %+v", c, i, got, ok, want)
			}
		}
	}
}
