package fifo

import (
	"bytes"
	"math"
	"testing"

	"vireo/api"
)

const most = 4096

func made(t *testing.T, room int) *Fifo {
	t.Helper()
	f, e := New(room)
	if e != api.OK || f == nil {
		t.Fatalf("New(%d): %v, %d", room, f, e)
	}
	return f
}

// pattern: bytes each of which is unlike those near it, and that come again at no round number.
func pattern(n int) []byte {
	out := make([]byte, n)
	for i := range out {
		out[i] = byte(i % 251)
	}
	return out
}

// filled: a row with some bytes of a pattern.
func filled(t *testing.T, room, n int) *Fifo {
	t.Helper()
	f := made(t, room)
	puts(t, f, pattern(n), n)
	return f
}

// puts: so many of these bytes come.
func puts(t *testing.T, f *Fifo, data []byte, came int) {
	t.Helper()
	if got := f.Put(data...); got != came {
		t.Fatalf("Put of %d bytes: %d, not %d", len(data), got, came)
	}
}

func takes(t *testing.T, f *Fifo, n int, want []byte) {
	t.Helper()
	if got := f.Take(n); !bytes.Equal(got, want) {
		t.Fatalf("Take(%d): %v, not %v", n, got, want)
	}
}

func peeks(t *testing.T, f *Fifo, n int, want []byte) {
	t.Helper()
	if got := f.Peek(n); !bytes.Equal(got, want) {
		t.Fatalf("Peek(%d): %v, not %v", n, got, want)
	}
}

// counts: so many wait, were dropped, were taken.
func counts(t *testing.T, f *Fifo, wait int, lost, taken uint64) {
	t.Helper()
	if f.Len() != wait || f.Lost() != lost || f.Taken() != taken {
		t.Fatalf("%d wait, %d lost, %d taken; not %d, %d, %d", f.Len(), f.Lost(), f.Taken(), wait, lost, taken)
	}
}

// is: all that a row tells is this.
func is(t *testing.T, f *Fifo, room int, wait []byte, lost, taken uint64) {
	t.Helper()
	counts(t, f, len(wait), lost, taken)
	peeks(t, f, math.MaxInt, wait)
	if f.Room() != room {
		t.Fatalf("Room %d, not %d", f.Room(), room)
	}
}

// model is a row as plainly as may be: all that ever came, and how many of these are gone.
type model struct {
	came        []byte
	gone        int
	room        int
	lost, taken uint64
}

func (m *model) put(data []byte) int {
	n := 0
	for _, b := range data {
		if len(m.came)-m.gone == m.room {
			m.lost++
			continue
		}
		m.came = append(m.came, b)
		n++
	}
	return n
}

func (m *model) peek(n int) []byte {
	var out []byte
	for i := m.gone; i < len(m.came) && len(out) < n; i++ {
		out = append(out, m.came[i])
	}
	return out
}

func (m *model) take(n int) []byte {
	out := m.peek(n)
	m.gone += len(out)
	m.taken += uint64(len(out))
	return out
}

func (m *model) clear() { m.gone = len(m.came) }

func (m *model) copy() *model {
	out := *m
	out.came = bytes.Clone(m.came)
	return &out
}
