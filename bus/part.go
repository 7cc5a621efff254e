package bus

import (
	"vireo/api"
	"vireo/word"
)

// The parts that addresses lead to.
const (
	None     = 0
	Memory   = 1
	TimePart = 2
	IntPart  = 3
	BlkPart  = 4
	TTYPart  = 5
)

// widest is the most bytes of an access.
const widest = 8

// pieces: where the parts lie. Where memory does it says itself; its piece is empty here, as None's is.
var pieces = [...]api.Span{
	TimePart: {At: api.ClintBase, Len: api.ClintSize},
	IntPart:  {At: api.PlicBase, Len: api.PlicSize},
	BlkPart:  {At: api.BlkBase, Len: api.DevSize},
	TTYPart:  {At: api.ConBase, Len: api.DevSize},
}

// Part: where n bytes at an address lead, and at which place of it; None: nowhere, or to no one part.
func (b *Bus) Part(at uint64, n int) (int, uint64) {
	// The number of bytes comes first: one below 0 would be a great one as a word.
	if n < 1 || n > widest {
		return None, 0
	}
	if b.Has(at, uint64(n)) {
		return Memory, at
	}
	for part, p := range pieces {
		if word.Within(at, uint64(n), p.At, p.Len) {
			return part, at - p.At
		}
	}
	return None, 0
}

// Name: a part's; "" of none.
func Name(part int) string {
	switch part {
	case Memory:
		return "memory"
	case TimePart:
		return "clint"
	case IntPart:
		return "plic"
	case BlkPart:
		return "disk"
	case TTYPart:
		return "console"
	}
	return ""
}
