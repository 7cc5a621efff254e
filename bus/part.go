package bus

import (
	"vireo/api"
	"vireo/word"
)

// The parts that addresses lead to.
const (
	None     = 0
	Memory   = 1
	TimePart = 2
	IntPart  = 3
	BlkPart  = 4
	TTYPart  = 5
)

// widest is the most bytes of an access.
const widest = 8

// Part: where n bytes at an address lead, and at which place of it; None: nowhere, or to no one part.
func (b *Bus) Part(at uint64, n int) (int, uint64) {
	// The number of bytes comes first: one below 0 would be a great one as a word.
	if n < 1 || n > widest {
		return None, 0
	}
	if b.Has(at, uint64(n)) {
		return Memory, at
	}
	for part := TimePart; part <= TTYPart; part++ {
		if p := pieceOf(part); word.Within(at, uint64(n), p.At, p.Len) {
			return part, at - p.At
		}
	}
	return None, 0
}

// pieceOf: where a part lies that stands where it does whatever the machine is; memory tells of itself.
func pieceOf(part int) api.Span {
	switch part {
	case TimePart:
		return api.Span{At: api.ClintBase, Len: api.ClintSize}
	case IntPart:
		return api.Span{At: api.PlicBase, Len: api.PlicSize}
	case BlkPart:
		return api.Span{At: api.BlkBase, Len: api.DevSize}
	case TTYPart:
		return api.Span{At: api.ConBase, Len: api.DevSize}
	}
	return api.Span{}
}

// Name: a part's; "" of none.
func Name(part int) string {
	switch part {
	case Memory:
		return "memory"
	case TimePart:
		return "clint"
	case IntPart:
		return "plic"
	case BlkPart:
		return "disk"
	case TTYPart:
		return "console"
	}
	return ""
}
