package image

import "vireo/word"

// Where the fields of a head stand, and those of a part's entry.
const (
	atEntry = 24
	atTable = 32
	atCount = 56

	atKind   = 0
	atPlace  = 8
	atAt     = 24
	atLength = 32
	atSize   = 40
)

// magic is 7F and ELF, as a word.
const magic = 0x464c457f

// field is a number in a head or an entry: where it stands, how many bytes it has.
type field struct {
	at, n int
	w     uint64
}

// known: the fields by which a file is known; all others may be anything.
func known() []field {
	return []field{{0, 4, magic}, {4, 1, 2}, {5, 1, 1}, {6, 1, 1}, {16, 2, 2}, {18, 2, 243}, {20, 4, 1}, {54, 2, PartSize}}
}

func head(p Program) []byte {
	out := make([]byte, HeadSize)
	put(out, known()...)
	put(out,
		field{atEntry, 8, p.Entry},
		field{atTable, 8, HeadSize},
		field{52, 2, HeadSize},
		field{atCount, 2, uint64(len(p.Parts))},
		field{58, 2, 64})
	return out
}

// entry: of a part whose data stand at a place of the file.
func entry(p Part, place int) []byte {
	out := make([]byte, PartSize)
	put(out,
		field{atKind, 4, loaded},
		field{4, 4, 7},
		field{atPlace, 8, uint64(place)},
		field{16, 8, p.At},
		field{atAt, 8, p.At},
		field{atLength, 8, uint64(len(p.Data))},
		field{atSize, 8, p.Size},
		field{48, 8, 1})
	return out
}

func put(piece []byte, list ...field) {
	for _, f := range list {
		copy(piece[f.at:], word.Bytes(f.w, f.n))
	}
}

// has: are all these fields such?
func has(piece []byte, list ...field) bool {
	for _, f := range list {
		if get(piece, f.at, f.n) != f.w {
			return false
		}
	}
	return true
}

func get(piece []byte, at, n int) uint64 { return word.Of(piece[at : at+n]...) }
