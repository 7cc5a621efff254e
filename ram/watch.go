package ram

import (
	"slices"

	"vireo/api"
)

// Log is the pieces that were written, and those that were read.
type Log struct {
	Writes []api.Span
	Reads  []api.Span
}

// Watch: from now on what is written, and read in pieces, is told to a log; nil: no more.
func (m *RAM) Watch(l *Log) {
	if m == nil {
		return
	}
	m.log = l
	if l == nil {
		return
	}
	// The spare room of the lists is the caller's: what is added goes into new memory.
	l.Writes = slices.Clip(l.Writes)
	l.Reads = slices.Clip(l.Reads)
}

func (m *RAM) tellWrite(at, n uint64) {
	if m.watched(n) {
		m.log.Writes = add(m.log.Writes, at, n)
	}
}

func (m *RAM) tellRead(at, n uint64) {
	if m.watched(n) {
		m.log.Reads = add(m.log.Reads, at, n)
	}
}

// watched: is a piece of so many bytes told to a log? One without bytes isn't.
func (m *RAM) watched(n uint64) bool { return n > 0 && m.log != nil }

// add: a list with a piece more, unless it is full.
func add(list []api.Span, at, n uint64) []api.Span {
	if len(list) >= api.MaxLog {
		return list
	}
	return append(list, api.Span{At: at, Len: n})
}
