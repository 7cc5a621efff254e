package script

import (
	"strings"

	"vireo/api"
	"vireo/asm"
	"vireo/csr"
	"vireo/word"
)

const (
	maxBytes  = 4096 // the most that mem tells
	maxWords  = 256  // the most that list tells
	wordSize  = 4
	systemAll = 4096 // so many numbers there are for system registers
)

// ask: what a line asks that is no event's. ErrScript: it asks nothing that there is.
func (s *Session) ask(name, rest string) (string, api.Errno) {
	switch name {
	case "reg":
		return s.reg(rest)
	case "csr":
		return s.system(rest)
	case "mem":
		return s.mem(rest)
	case "list":
		return s.list(rest)
	case "sector":
		return s.sector(rest)
	}
	if rest != "" {
		return "", api.ErrScript
	}
	switch name {
	case "pc":
		return word.Hex(s.PC), api.OK
	case "out":
		return Quote(s.TTY.Output()), api.OK
	case "state":
		return s.state(), api.OK
	}
	return "", api.ErrScript
}

func (s *Session) reg(name string) (string, api.Errno) {
	for n, w := range s.X {
		if asm.Reg(n) == name {
			return word.Hex(w), api.OK
		}
	}
	return "", api.ErrScript
}

func (s *Session) system(name string) (string, api.Errno) {
	for n := range systemAll {
		if csr.Known(n) && (csr.Name(n) == name || word.Hex(uint64(n)) == name) {
			return word.Hex(s.CSR.Read(n)), api.OK
		}
	}
	return "", api.ErrScript
}

// mem asks the memory byte by byte: its Read would come to the log of one who watches it, and to ask changes nothing.
func (s *Session) mem(rest string) (string, api.Errno) {
	at, n, ok := twoNumbers(rest)
	if !ok || n > maxBytes {
		return "", api.ErrScript
	}
	if !s.RAM.Has(at, n) {
		return "", api.ErrPlace
	}
	data := make([]byte, n)
	for i := range data {
		b, _ := s.RAM.Load(at+uint64(i), 1)
		data[i] = byte(b)
	}
	return Quote(data), api.OK
}

func (s *Session) list(rest string) (string, api.Errno) {
	at, n, ok := twoNumbers(rest)
	if !ok || n > maxWords {
		return "", api.ErrScript
	}
	if !s.RAM.Has(at, n*wordSize) {
		return "", api.ErrPlace
	}
	words := make([]uint32, n)
	for i := range words {
		w, _ := s.RAM.Load(at+uint64(i)*wordSize, wordSize)
		words[i] = uint32(w)
	}
	return strings.Join(asm.List(words...), "; "), api.OK
}

func (s *Session) sector(rest string) (string, api.Errno) {
	n, ok := word.Parse(rest)
	if !ok {
		return "", api.ErrScript
	}
	data, ok := s.Disk().Sector(n)
	if !ok {
		return "", api.ErrSector
	}
	return Quote(data), api.OK
}

func (s *Session) state() string {
	parts := [...]string{
		"mode " + word.Dec(int64(s.CSR.Mode)),
		"pc " + word.Hex(s.PC),
		"steps " + word.Dec(int64(s.Steps())),
		"done " + word.Dec(int64(s.CSR.Instret)),
		"time " + word.Hex(s.Clint.Now),
		"lines " + word.Hex(s.Lines()),
		"flags " + flag("w", s.Waits) + flag("b", s.Blk.Live()) + flag("t", s.TTY.Live()),
	}
	return strings.Join(parts[:], ", ")
}

func flag(sign string, is bool) string {
	if is {
		return sign
	}
	return "-"
}

// twoNumbers: those of a rest with blanks between; false: it isn't such.
func twoNumbers(rest string) (uint64, uint64, bool) {
	one, two := cutName(rest)
	a, isOne := word.Parse(one)
	b, isTwo := word.Parse(two)
	return a, b, isOne && isTwo
}
