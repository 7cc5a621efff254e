package ring

import (
	"vireo/api"
	"vireo/ram"
	"vireo/word"
)

// Where the parts of a descriptor begin, behind its address.
const (
	lenAt   = 8
	flagsAt = 12
	nextAt  = 14
)

// Desc: the descriptor number i of a table.
func Desc(m *ram.RAM, table uint64, i int) (api.Desc, bool) {
	if i < 0 || i >= api.MaxChain {
		return api.Desc{}, false
	}
	// A sum beyond the greatest address begins anew at 0: less than 4096 bytes above it no memory lies.
	data, ok := m.Read(table+DescSize*uint64(i), DescSize)
	if !ok {
		return api.Desc{}, false
	}
	return api.Desc{
		Addr:  word.Of(data[:lenAt]...),
		Len:   uint32(word.Of(data[lenAt:flagsAt]...)),
		Flags: uint16(word.Of(data[flagsAt:nextAt]...)),
		Next:  uint16(word.Of(data[nextAt:]...)),
	}, true
}

// Bytes: of a descriptor.
func Bytes(d api.Desc) []byte {
	out := word.Bytes(d.Addr, lenAt)
	out = append(out, word.Bytes(uint64(d.Len), flagsAt-lenAt)...)
	out = append(out, word.Bytes(uint64(d.Flags), nextAt-flagsAt)...)
	return append(out, word.Bytes(uint64(d.Next), DescSize-nextAt)...)
}
