package image

import (
	"vireo/api"
	"vireo/asm"
	"vireo/word"
)

// Lay: a program's image: what memory of so many bytes holds from its beginning on, up to the last byte of a part. ErrPlace: a part doesn't lie in it.
func Lay(p Program, size uint64) ([]byte, api.Errno) {
	if size > api.MaxRAM {
		return nil, api.ErrSize
	}
	end := uint64(0)
	for _, part := range p.Parts {
		if !word.Within(part.At, part.Size, api.RAMBase, size) || !part.fits() {
			return nil, api.ErrPlace
		}
		// A part of no bytes has no last one.
		if part.Size > 0 {
			end = max(end, part.At-api.RAMBase+part.Size)
		}
	}
	out := make([]byte, end)
	for _, part := range p.Parts {
		if part.Size > 0 {
			part.lay(out[part.At-api.RAMBase:])
		}
	}
	return out, api.OK
}

// lay: what an earlier part has where this one has no data goes, too.
func (p Part) lay(room []byte) {
	n := copy(room, p.Data)
	clear(room[n:p.Size])
}

// Assemble: a program of lines, at the beginning of memory; the number of the first line that is none.
func Assemble(lines ...string) (Program, api.Errno, int) {
	words, e, n := asm.Program(lines...)
	if e != api.OK {
		return Program{}, e, n
	}
	data := asm.Bytes(words...)
	part := Part{At: api.RAMBase, Data: data, Size: uint64(len(data))}
	return Program{Entry: api.RAMBase, Parts: []Part{part}}, api.OK, 0
}

// Sum: a file's check: its words of eight bytes added up, the last one filled with 0.
func Sum(data []byte) uint64 {
	sum := uint64(0)
	for i := 0; i < len(data); i += 8 {
		sum += word.Of(data[i:]...)
	}
	return sum
}
