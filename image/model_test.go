package image

import (
	"bytes"
	"encoding/binary"
	"fmt"
	"math/big"
	"math/rand"
	"testing"

	"vireo/api"
)

// end: where so many bytes from a place on end, as great as one likes.
func end(at, n uint64) *big.Int {
	return new(big.Int).Add(new(big.Int).SetUint64(at), new(big.Int).SetUint64(n))
}

// beyond: do so many bytes from a place on pass a bound?
func beyond(at, n, bound uint64) bool { return end(at, n).Cmp(end(bound, 0)) > 0 }

// parsed: what the chapter says of a file; false: it is none.
func parsed(data []byte) (Program, bool) {
	if len(data) < 64 {
		return Program{}, false
	}
	low := binary.LittleEndian
	if string(data[:7]) != "\x7fELF\x02\x01\x01" || low.Uint16(data[16:]) != 2 || low.Uint16(data[18:]) != 243 || low.Uint32(data[20:]) != 1 || low.Uint16(data[54:]) != 56 {
		return Program{}, false
	}
	at, count := low.Uint64(data[32:]), uint64(low.Uint16(data[56:]))
	if count > 16 || beyond(at, 56*count, uint64(len(data))) {
		return Program{}, false
	}
	p := Program{Entry: low.Uint64(data[24:])}
	for i := range count {
		var r row
		binary.Read(bytes.NewReader(data[at+56*i:]), low, &r)
		if r.Kind != 1 {
			continue
		}
		if beyond(r.Place, r.Length, uint64(len(data))) || r.Length > r.Size {
			return Program{}, false
		}
		p.Parts = append(p.Parts, Part{r.At, data[r.Place : r.Place+r.Length], r.Size})
	}
	return p, true
}

// laid: what the chapter says of an image, byte by byte.
func laid(p Program, size uint64) ([]byte, api.Errno) {
	if size > 1<<28 {
		return nil, 20
	}
	bytes, last := map[uint64]byte{}, uint64(0)
	for _, part := range p.Parts {
		if part.At < base || beyond(part.At, part.Size, base+size) || uint64(len(part.Data)) > part.Size {
			return nil, 21
		}
		for i := range part.Size {
			at := part.At - base + i
			bytes[at] = 0
			if i < uint64(len(part.Data)) {
				bytes[at] = part.Data[i]
			}
			last = max(last, at+1)
		}
	}
	out := make([]byte, last)
	for at, b := range bytes {
		out[at] = b
	}
	return out, 0
}

// one of some.
func one[T any](chance *rand.Rand, list ...T) T { return list[chance.Intn(len(list))] }

// some: a number that may be near what matters in a file of so many bytes.
func some(chance *rand.Rand, n int) uint64 {
	near := uint64(chance.Intn(5)) - 2
	return one(chance, 0, near, uint64(n)+near, uint64(chance.Intn(n+1)), uint64(chance.Intn(60)), top+near, base+near, chance.Uint64()>>chance.Intn(64))
}

// someRow: a part's entry, which a file of so many bytes may have or not.
func someRow(chance *rand.Rand, n int) row {
	r := row{Kind: one[uint32](chance, 1, 1, 1, 1, 1, 0, 2, chance.Uint32()), Flags: chance.Uint32(), First: chance.Uint64(), At: chance.Uint64(), Align: some(chance, n)}
	r.Place = uint64(chance.Intn(n + 1))
	r.Length = uint64(chance.Intn(n - int(r.Place) + 1))
	r.Size = r.Length + uint64(chance.Intn(3))
	switch chance.Intn(12) {
	case 0:
		r.Place = some(chance, n)
	case 1:
		r.Length = some(chance, n)
	case 2:
		r.Size = some(chance, n)
	}
	return r
}

// someFile: one that is a program's, or nearly so.
func someFile(chance *rand.Rand) []byte {
	count, more := chance.Intn(18), chance.Intn(100)
	var rows []row
	for range count {
		rows = append(rows, someRow(chance, 64+56*count+more))
	}
	file := byHand(chance.Uint64(), rows, pattern(more, chance.Intn(99)))
	switch chance.Intn(6) {
	case 0:
		file = with(file, chance.Intn(len(file)), 1, chance.Uint64())
	case 1:
		file = with(file, one(chance, 7, 16, 18, 20, 40, 48, 52, 54, 58, 60), 2, some(chance, 60))
	case 2:
		file = with(file, 32, 8, some(chance, len(file)))
	case 3:
		file = with(file, 56, 2, some(chance, 16))
	case 4:
		file = file[:chance.Intn(len(file)+1)]
	}
	return file
}

// P25.1 and P25.5: files, some of which are none, held against the model; what is read is written and read again.
func TestFilesAgainstModel(t *testing.T) {
	chance := rand.New(rand.NewSource(25))
	right := 0
	for n := range 40000 {
		file := someFile(chance)
		want, ok := parsed(file)
		is(t, fmt.Sprintf("file %d", n), file, want, ok)
		if !ok {
			continue
		}
		right++
		again, e := Bytes(want)
		if e != 0 {
			t.Fatalf("file %d: Bytes has %d", n, e)
		}
		reads(t, "again", again, want)
	}
	if right < 4000 || right > 36000 {
		t.Errorf("%d files of 40000 are right", right)
	}
}

// somePart: a piece of a memory of so many bytes, or of what is beside it.
func somePart(chance *rand.Rand, size int) Part {
	from := chance.Intn(size + 1)
	p := Part{At: base + uint64(from), Size: uint64(chance.Intn(size - from + 1))}
	p.Data = pattern(chance.Intn(int(p.Size)+1), chance.Intn(200))
	switch chance.Intn(40) {
	case 0:
		p.At = one(chance, base-1, base-p.Size, base+uint64(size), base+uint64(size)+1, ones, ones-p.Size+1, some(chance, size))
	case 1:
		p.Size = one(chance, uint64(size), ones-p.At+1, ones-p.At+1+base, ones, some(chance, size))
	case 2:
		p.Data = append(p.Data, pattern(chance.Intn(size+2), 1)...)
	}
	return p
}

// P25.3 and P25.2: programs, some of which have no image or no file, held against the model.
func TestProgramsAgainstModel(t *testing.T) {
	chance := rand.New(rand.NewSource(3))
	var seen [3]int
	for n := range 20000 {
		size := chance.Intn(60)
		p := Program{Entry: chance.Uint64()}
		for range chance.Intn(9) {
			p.Parts = append(p.Parts, somePart(chance, size))
		}
		asked := uint64(size)
		if chance.Intn(20) == 0 {
			asked = one(chance, 1<<28, 1<<28+1, ones, asked+1<<32, asked-1, asked+1)
		}
		want, e := laid(p, asked)
		lays(t, fmt.Sprintf("program %d: %v", n, p), p, asked, want, e)
		seen[max(0, e-19)]++
		fits := true
		for _, part := range p.Parts {
			fits = fits && uint64(len(part.Data)) <= part.Size
		}
		file, f := Bytes(p)
		if (f == 0) != fits || f != 0 && (f != 250 || len(file) != 0) {
			t.Errorf("program %d: %d bytes, %d", n, len(file), f)
		}
		if f == 0 {
			reads(t, "its file", file, p)
		}
	}
	if seen[0] < 4000 || seen[1] < 100 || seen[2] < 2000 {
		t.Errorf("of the errors there are %v", seen)
	}
}
