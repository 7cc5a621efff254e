package image

import (
	"bytes"
	"encoding/binary"
	"math"
	"testing"

	"vireo/api"
)

const (
	base = 0x80000000
	ones = math.MaxUint64
	top  = uint64(1) << 63
)

// row is a part's entry in a file, number by number.
type row struct {
	Kind, Flags                           uint32
	Place, First, At, Length, Size, Align uint64
}

// byHand: a file of a head, a table behind it, and what comes behind that.
func byHand(entry uint64, rows []row, rest []byte) []byte {
	out := []byte{0x7f, 'E', 'L', 'F', 2, 1, 1, 0, 0, 0, 0, 0, 0, 0, 0, 0, 2, 0, 243, 0, 1, 0, 0, 0}
	add := func(list ...any) {
		for _, x := range list {
			out, _ = binary.Append(out, binary.LittleEndian, x)
		}
	}
	add(entry, uint64(64), uint64(0), uint32(0), uint16(64), uint16(56), uint16(len(rows)), uint16(64), uint16(0), uint16(0))
	for _, r := range rows {
		add(r)
	}
	return append(out, rest...)
}

// loads: the row of a part that goes to memory.
func loads(place, at, length, size uint64) row {
	return row{Kind: 1, Flags: 7, Place: place, First: at, At: at, Length: length, Size: size, Align: 1}
}

// pattern: bytes of which those that stand beside one another are unlike.
func pattern(n, from int) []byte {
	list := make([]byte, n)
	for i := range list {
		list[i] = byte((i*7+i/256*31+from)%255 + 1)
	}
	return list
}

// with: a copy of a file, with a number of n bytes at a place.
func with(file []byte, at, n int, w uint64) []byte {
	out := bytes.Clone(file)
	for i := range n {
		out[at+i] = byte(w >> (8 * i))
	}
	return out
}

// alike: an empty list is as good as none.
func alike(p, q Program) bool {
	if p.Entry != q.Entry || len(p.Parts) != len(q.Parts) {
		return false
	}
	for i, a := range p.Parts {
		b := q.Parts[i]
		if a.At != b.At || a.Size != b.Size || !bytes.Equal(a.Data, b.Data) {
			return false
		}
	}
	return true
}

// reads: a file is just this program's.
func reads(t *testing.T, what string, file []byte, want Program) {
	t.Helper()
	if p, e := Parse(file); e != 0 || !alike(p, want) {
		t.Errorf("%s: %.200v, %d, not %.200v", what, p, e, want)
	}
}

// refuses: a file is no program's; rule 2: there is nothing beside the error.
func refuses(t *testing.T, what string, file []byte) {
	t.Helper()
	if p, e := Parse(file); e != 250 || p.Entry != 0 || len(p.Parts) != 0 {
		t.Errorf("%s: %.200v, %d", what, p, e)
	}
}

// is: a file is read, or refused.
func is(t *testing.T, what string, file []byte, want Program, right bool) {
	t.Helper()
	if right {
		reads(t, what, file, want)
		return
	}
	refuses(t, what, file)
}

// writes: a program's file is just this, and the program is read of it (P25.5).
func writes(t *testing.T, what string, p Program, want []byte) {
	t.Helper()
	got, e := Bytes(p)
	if e != 0 || !bytes.Equal(got, want) {
		t.Errorf("%s: %.300x, %d, not %.300x", what, got, e, want)
	}
	reads(t, what, got, p)
}

// lays: a program's image is just this, or the error.
func lays(t *testing.T, what string, p Program, size uint64, want []byte, e api.Errno) {
	t.Helper()
	got, f := Lay(p, size)
	if f != e || !bytes.Equal(got, want) {
		t.Errorf("%s: %d bytes %.100x, %d, not %d bytes %.100x, %d", what, len(got), got, f, len(want), want, e)
	}
}
