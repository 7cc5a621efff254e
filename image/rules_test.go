package image

import (
	"bytes"
	"math/rand"
	"slices"
	"testing"
)

// P1: any bytes, and any lines, are answered.
func TestAnyBytes(t *testing.T) {
	chance := rand.New(rand.NewSource(9))
	good, _ := small()
	for range 20000 {
		list := make([]byte, chance.Intn(400))
		chance.Read(list)
		if chance.Intn(2) == 0 {
			copy(list, good[:24])
		}
		p, e := Parse(list)
		if want, ok := parsed(list); ok != (e == 0) || !alike(p, want) {
			t.Fatalf("%x: %v, %d", list, p, e)
		}
		Sum(list)
		Assemble(string(list), string(list[len(list)/2:]))
		Lay(p, chance.Uint64()>>chance.Intn(64))
		Bytes(p)
	}
}

// P1: programs of any numbers are answered; what isn't refused is there.
func TestAnyProgram(t *testing.T) {
	chance := rand.New(rand.NewSource(10))
	for range 20000 {
		var p Program
		for range chance.Intn(20) {
			p.Parts = append(p.Parts, Part{some(chance, 100), pattern(chance.Intn(4), 1), some(chance, 3)})
		}
		file, e := Bytes(p)
		if e == 0 {
			reads(t, "there and back", file, p)
		}
		Lay(p, some(chance, 5000))
	}
	Lay(Program{}, 0)
	if got, e := Bytes(Program{}); e != 0 || len(got) != 64 {
		t.Errorf("the zero program: %x, %d", got, e)
	}
}

// spoil: all bytes of a list and of its spare room are others now.
func spoil(list []byte) {
	list = list[:cap(list)]
	for i := range list {
		list[i] ^= 0xff
	}
}

// roomy: a list of the same bytes, with spare room that is full.
func roomy(list []byte) []byte {
	out := append(bytes.Clone(list), pattern(64, 7)...)
	return out[:len(list)]
}

// P2, rule 4: a file stays as it is, with its spare room, and what was read of it stays when it changes.
func TestFilesStay(t *testing.T) {
	rows := []row{loads(64+3*56, 1, 20, 30), loads(64+3*56, 2, 20, 20), loads(0, 3, 0, 9)}
	file := roomy(byHand(5, rows, pattern(20, 1)))
	before := bytes.Clone(file[:cap(file)])
	want := Program{5, []Part{{1, pattern(20, 1), 30}, {2, pattern(20, 1), 20}, {At: 3, Size: 9}}}
	p, _ := Parse(file)
	q, _ := Parse(file)
	Sum(file)
	if !bytes.Equal(file[:cap(file)], before) {
		t.Fatalf("the file is changed")
	}
	spoil(file)
	if !alike(p, want) || !alike(q, want) {
		t.Errorf("what was read of the file changes with it: %v, %v", p, q)
	}
	spoil(file)
	for i := range p.Parts {
		spoil(p.Parts[i].Data)
		if !bytes.Equal(file[:cap(file)], before) || !alike(q, want) {
			t.Fatalf("part %d shares its data", i)
		}
		for j := range p.Parts {
			if j > i && !bytes.Equal(p.Parts[j].Data, want.Parts[j].Data) {
				t.Fatalf("parts %d and %d share their data", i, j)
			}
		}
		p.Parts[i] = Part{}
	}
	if !alike(q, want) {
		t.Errorf("two answers share their parts")
	}
}

// P2, rule 4: appending to one part's data leaves the next one's.
func TestDataOfPartsAreApart(t *testing.T) {
	file := byHand(0, []row{loads(64+2*56, 1, 3, 3), loads(64+2*56+3, 2, 3, 3)}, []byte("abcdef"))
	p, _ := Parse(file)
	_ = append(p.Parts[0].Data, "XYZ"...)
	if string(p.Parts[1].Data) != "def" || string(file[64+2*56:]) != "abcdef" {
		t.Errorf("%v, %q", p, file[64+2*56:])
	}
}

// P2, rule 4: a program stays as it is, with the spare room of its lists, and its file and its image are their own.
func TestProgramsStay(t *testing.T) {
	data := []byte("abcdef")
	list := append(make([]Part, 0, 4), Part{base, roomy(data), 8}, Part{base + 4, roomy(data), 6})
	spare := Part{base + 1, []byte("spare"), 5}
	copy(list[2:4], []Part{spare, spare})
	p := Program{base, list}
	rooms := [][]byte{list[0].Data[:70], list[1].Data[:70]}
	before := [][]byte{bytes.Clone(rooms[0]), bytes.Clone(rooms[1])}
	var answers [][]byte
	for range 2 {
		file, _ := Bytes(p)
		image, _ := Lay(p, 4096)
		answers = append(answers, file, image)
	}
	Lay(p, 9)
	Lay(p, 1<<28+1)
	Bytes(Program{base, append(slices.Clone(list), Part{Data: data})})
	want := [][]byte{bytes.Clone(answers[0]), bytes.Clone(answers[1])}
	for i, a := range answers {
		for j, b := range answers {
			if j >= i && !bytes.Equal(b, want[j%2]) {
				t.Fatalf("the answers %d and %d share memory", i, j)
			}
		}
		spoil(a)
		if !bytes.Equal(rooms[0], before[0]) || !bytes.Equal(rooms[1], before[1]) {
			t.Fatalf("the answer %d shares memory with the program", i)
		}
	}
	for i, at := range []uint64{base, base + 4, base + 1, base + 1} {
		if got := list[:4][i]; got.At != at || i > 1 && string(got.Data) != "spare" {
			t.Errorf("part %d is changed: %v", i, got)
		}
	}
	image, _ := Lay(p, 4096)
	spoil(rooms[0])
	spoil(rooms[1])
	if !bytes.Equal(image, want[1]) {
		t.Errorf("the image changes with the program")
	}
}

// P2, rule 4: lines stay as they are, and each answer has data of its own.
func TestLinesStay(t *testing.T) {
	lines := append(make([]string, 0, 4), "ecall", " ", "ebreak")
	lines[:4][3] = "spare"
	p, _, _ := Assemble(lines...)
	q, _, _ := Assemble(lines...)
	spoil(p.Parts[0].Data)
	p.Parts[0] = Part{}
	want := Program{base, []Part{{base, []byte("\x73\x00\x00\x00\x73\x00\x10\x00"), 8}}}
	if !alike(q, want) || !slices.Equal(lines[:4], []string{"ecall", " ", "ebreak", "spare"}) {
		t.Errorf("%v, %q", q, lines[:4])
	}
}

// P2, rule 4: what a call answers hangs on its arguments alone, whatever was asked and refused ahead of it (rule 3).
func TestNothingIsKept(t *testing.T) {
	file, p := small()
	for range 3 {
		reads(t, "a file", file, p)
		refuses(t, "half of it", file[:len(file)/2])
		writes(t, "its program", p, file)
		refusesBytes(t, "what has no file", Program{Parts: []Part{{Data: []byte{1}}}})
		lays(t, "its image", p, 4096, append(append(make([]byte, 16), p.Parts[0].Data...), 0, 0), 0)
		lays(t, "in too little memory", p, 20, nil, 21)
		if got := Sum(file); got != Sum(bytes.Clone(file)) {
			t.Errorf("Sum: %#x", got)
		}
	}
}
