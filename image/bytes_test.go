package image

import (
	"bytes"
	"debug/elf"
	"fmt"
	"testing"
)

// P25.2: a file's bytes, one by one.
func TestBytes(t *testing.T) {
	want := "\x7fELF\x02\x01\x01\x00\x00\x00\x00\x00\x00\x00\x00\x00" +
		"\x02\x00\xf3\x00\x01\x00\x00\x00" +
		"\x08\x07\x06\x05\x04\x03\x02\x01" + // Entry
		"\x40\x00\x00\x00\x00\x00\x00\x00" + // the table
		"\x00\x00\x00\x00\x00\x00\x00\x00\x00\x00\x00\x00" +
		"\x40\x00\x38\x00\x02\x00\x40\x00\x00\x00\x00\x00" +
		"\x01\x00\x00\x00\x07\x00\x00\x00" +
		"\xb0\x00\x00\x00\x00\x00\x00\x00" + // its data
		"\x18\x17\x16\x15\x14\x13\x12\x11\x18\x17\x16\x15\x14\x13\x12\x11" +
		"\x03\x00\x00\x00\x00\x00\x00\x00" +
		"\x28\x27\x26\x25\x24\x23\x22\x21" +
		"\x01\x00\x00\x00\x00\x00\x00\x00" +
		"\x01\x00\x00\x00\x07\x00\x00\x00" +
		"\xb3\x00\x00\x00\x00\x00\x00\x00" +
		"\x00\x00\x00\x80\x00\x00\x00\x00\x00\x00\x00\x80\x00\x00\x00\x00" +
		"\x02\x00\x00\x00\x00\x00\x00\x00" +
		"\x02\x00\x00\x00\x00\x00\x00\x00" +
		"\x01\x00\x00\x00\x00\x00\x00\x00" +
		"abcde"
	p := Program{0x0102030405060708, []Part{{0x1112131415161718, []byte("abc"), 0x2122232425262728}, {base, []byte("de"), 2}}}
	writes(t, "two parts", p, []byte(want))
}

// P25.2 and P25.5: of no part, of 1, of 16, each with its data, and some without.
func TestBytesOfCounts(t *testing.T) {
	for n := range 17 {
		p := Program{Entry: uint64(n) << 40}
		var rows []row
		var rest []byte
		for i := range n {
			data := pattern(i*i%7*50, i)
			rows = append(rows, loads(uint64(64+56*n+len(rest)), ones-uint64(i), uint64(len(data)), uint64(len(data)+i%3)))
			p.Parts = append(p.Parts, Part{ones - uint64(i), data, uint64(len(data) + i%3)})
			rest = append(rest, data...)
		}
		writes(t, fmt.Sprintf("%d parts", n), p, byHand(p.Entry, rows, rest))
	}
}

// refusesBytes: there is no file of a program.
func refusesBytes(t *testing.T, what string, p Program) {
	t.Helper()
	if got, e := Bytes(p); e != 250 || len(got) != 0 {
		t.Errorf("%s: %.100x, %d", what, got, e)
	}
}

// P25.2: 17 parts are too many.
func TestBytesOfTooMany(t *testing.T) {
	for _, n := range []int{17, 18, 255, 256, 65535, 65536, 65537} {
		refusesBytes(t, fmt.Sprintf("%d parts", n), Program{Parts: make([]Part, n)})
	}
	writes(t, "16 parts", Program{Parts: make([]Part, 16)}, byHand(0, func() (list []row) {
		for range 16 {
			list = append(list, loads(64+16*56, 0, 0, 0))
		}
		return list
	}(), nil))
}

// P25.2: data are no more than Size, of each part.
func TestBytesOfSizes(t *testing.T) {
	for _, n := range []int{0, 1, 2, 100, 256, 300} {
		for _, size := range []uint64{0, 1, 2, 99, 100, 101, 255, 256, 257, 299, 300, 1 << 32, top, ones} {
			what := fmt.Sprintf("%d of %#x", n, size)
			one := Part{base, pattern(n, 2), size}
			if uint64(n) > size {
				refusesBytes(t, what, Program{Parts: []Part{one}})
				refusesBytes(t, what+", ahead", Program{Parts: []Part{one, {}}})
				refusesBytes(t, what+", behind", Program{Parts: []Part{{}, {Data: []byte{1}, Size: 1}, one}})
				continue
			}
			writes(t, what, Program{Parts: []Part{one}}, byHand(0, []row{loads(120, base, uint64(n), size)}, one.Data))
		}
	}
}

// P25.2: others read the same of a file.
func TestOthersReadIt(t *testing.T) {
	p := Program{0x80000100, []Part{{0x80000000, pattern(70, 1), 100}, {0x80001000, nil, 4096}, {0x80000100, pattern(9, 2), 9}}}
	file, e := Bytes(p)
	if e != 0 {
		t.Fatalf("Bytes: %d", e)
	}
	f, err := elf.NewFile(bytes.NewReader(file))
	if err != nil {
		t.Fatal(err)
	}
	if f.Class != elf.ELFCLASS64 || f.Data != elf.ELFDATA2LSB || f.Type != elf.ET_EXEC || f.Machine != elf.EM_RISCV || f.Entry != p.Entry || len(f.Sections) != 0 || len(f.Progs) != 3 {
		t.Fatalf("%v", f.FileHeader)
	}
	for i, g := range f.Progs {
		data := make([]byte, g.Filesz)
		g.ReadAt(data, 0)
		q := p.Parts[i]
		if g.Type != elf.PT_LOAD || g.Flags != elf.PF_X|elf.PF_W|elf.PF_R || g.Vaddr != q.At || g.Paddr != q.At || g.Memsz != q.Size || g.Align != 1 || !bytes.Equal(data, q.Data) {
			t.Errorf("part %d: %v", i, g.ProgHeader)
		}
	}
}

// P25.5: of parts without data, and of Size 0, too, and at the greatest places.
func TestThereAndBack(t *testing.T) {
	for _, p := range []Program{
		{},
		{Entry: ones},
		{Parts: []Part{{}}},
		{ones, []Part{{ones, nil, ones}}},
		{1, []Part{{0, nil, 5}, {base, []byte{}, 0}, {top, []byte{0}, 1}, {top, []byte{0}, ones}}},
		{1, []Part{{7, []byte("a"), 1}, {7, []byte("a"), 1}, {}, {}, {6, []byte("bc"), 3}}},
	} {
		file, e := Bytes(p)
		if e != 0 {
			t.Errorf("Bytes: %d", e)
		}
		reads(t, "there and back", file, p)
		reads(t, "with more behind", append(file, "more"...), p)
	}
}
