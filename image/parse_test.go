package image

import (
	"fmt"
	"testing"
)

// small: a file of one part, and its program.
func small() ([]byte, Program) {
	data := pattern(10, 3)
	return byHand(0x80000004, []row{loads(120, 0x80000010, 10, 12)}, data), Program{0x80000004, []Part{{0x80000010, data, 12}}}
}

// P25.1: a file has a head, at least.
func TestLengths(t *testing.T) {
	refuses(t, "nothing", nil)
	refuses(t, "no bytes", []byte{})
	file := byHand(ones, nil, nil)
	for n := range 64 {
		refuses(t, fmt.Sprintf("%d bytes", n), file[:n])
	}
	reads(t, "64 bytes", file, Program{Entry: ones})
	reads(t, "65 bytes", append(file, 1), Program{Entry: ones})
	file, p := small()
	for n := range file {
		refuses(t, fmt.Sprintf("%d bytes of a part's file", n), file[:n])
	}
	reads(t, "a part's file", file, p)
	reads(t, "a part's file and more", append(file, pattern(100, 1)...), p)
}

// P25.1: of a head's fields those at 0, 4, 5, 6, 16, 18, 20 and 54 are judged, all their bytes; of others nothing but what they tell is taken.
func TestHead(t *testing.T) {
	file, p := small()
	for at := range 64 {
		for bit := range 8 {
			what := fmt.Sprintf("byte %d, bit %d", at, bit)
			other := with(file, at, 1, uint64(file[at]^1<<bit))
			switch {
			case at < 7, 16 <= at && at < 24, at == 54, at == 55:
				refuses(t, what, other)
			case 24 <= at && at < 32:
				reads(t, what, other, Program{p.Entry ^ 1<<(8*(at-24)+bit), p.Parts})
			case 32 <= at && at < 40, at == 56, at == 57: // tests of their own
			default:
				reads(t, what, other, p)
			}
		}
	}
}

// P25.1: the values that the fields could have elsewhere.
func TestHeadsOfOthers(t *testing.T) {
	file, p := small()
	for _, c := range []struct {
		what  string
		at, n int
		w     uint64
		right bool
	}{
		{"as it is", 0, 4, 0x464c457f, true},
		{"no 7F", 0, 4, 0x464c4500, false},
		{"turned round", 0, 4, 0x7f454c46, false},
		{"nothing at 0", 0, 4, 0, false},
		{"32 bits", 4, 1, 1, false},
		{"none of 32 and 64 bits", 4, 1, 0, false},
		{"the highest bytes first", 5, 1, 2, false},
		{"nothing at 5", 5, 1, 0, false},
		{"nothing at 6", 6, 1, 0, false},
		{"2 at 6", 6, 1, 2, false},
		{"another's system", 7, 1, 3, true},
		{"anything at 8", 8, 8, ones, true},
		{"nothing at 16", 16, 2, 0, false},
		{"1 at 16", 16, 2, 1, false},
		{"3 at 16", 16, 2, 3, false},
		{"2 and more at 16", 16, 2, 0x102, false},
		{"another machine", 18, 2, 62, false},
		{"243 and more", 18, 2, 243 + 256, false},
		{"nothing at 20", 20, 4, 0, false},
		{"2 at 20", 20, 4, 2, false},
		{"1 and more at 20", 20, 4, 1<<24 + 1, false},
		{"anything at 40", 40, 8, ones, true},
		{"anything at 48", 48, 4, 0xffffffff, true},
		{"nothing at 52", 52, 2, 0, true},
		{"another head's length", 52, 2, 52, true},
		{"entries of 32 bytes", 54, 2, 32, false},
		{"entries of 0 bytes", 54, 2, 0, false},
		{"entries of 57 bytes", 54, 2, 57, false},
		{"56 and more", 54, 2, 56 + 256, false},
		{"nothing at 58", 58, 2, 0, true},
		{"anything at 60", 60, 4, 0xffffffff, true},
	} {
		is(t, c.what, with(file, c.at, c.n, c.w), p, c.right)
	}
}

// P25.1: there are at most 16 parts, of whatever kind.
func TestCounts(t *testing.T) {
	for _, n := range []int{0, 1, 2, 15, 16, 17, 18, 255, 256, 257, 272, 65535} {
		for _, kind := range []uint32{1, 0} {
			var rows []row
			want := Program{Entry: 7}
			for i := range n {
				r := loads(uint64(i), uint64(1000*i), uint64(i), uint64(2*i))
				r.Kind = kind
				rows = append(rows, r)
			}
			file := byHand(7, rows, nil)
			if kind == 1 && n <= 16 {
				for i := range n {
					want.Parts = append(want.Parts, Part{uint64(1000 * i), file[i : 2*i], uint64(2 * i)})
				}
			}
			is(t, fmt.Sprintf("%d parts of the kind %d", n, kind), file, want, n <= 16)
		}
	}
}

// P25.1: the table lies in the file, wherever.
func TestTable(t *testing.T) {
	const n = 400
	file := byHand(9, nil, make([]byte, n-64))
	for _, c := range []struct {
		at    uint64
		count uint64
		right bool
	}{
		{0, 0, true}, {64, 0, true}, {n, 0, true}, {n + 1, 0, false}, {ones, 0, false}, {top, 0, false},
		{0, 1, true}, {64, 1, true}, {65, 1, true}, {n - 56, 1, true}, {n - 55, 1, false}, {n - 1, 1, false}, {n, 1, false}, {n + 1, 1, false},
		{top - 56, 1, false}, {top, 1, false}, {ones, 1, false}, {ones - 55, 1, false}, {ones - 54, 1, false}, {ones - 56, 1, false}, {1<<32 + 64, 1, false},
		{64, 6, true}, {n - 6*56, 6, true}, {n - 6*56 + 1, 6, false}, {0, 7, true}, {8, 7, true}, {9, 7, false}, {64, 7, false},
		{0, 8, false}, {0, 16, false}, {ones - 16*56 + 1, 16, false}, {ones - 16*56 + 2, 16, false}, {ones - 15*56, 16, false},
	} {
		is(t, fmt.Sprintf("%d parts at %#x", c.count, c.at), with(with(file, 32, 8, c.at), 56, 2, c.count), Program{Entry: 9}, c.right)
	}
}

// P25.1: the table is that which the head names, not what stands behind the head.
func TestTableElsewhere(t *testing.T) {
	rows := []row{loads(0, 5, 4, 4), loads(1, 6, 3, 9)}
	table := byHand(0, rows, nil)[64:]
	file := byHand(1, []row{loads(0, 7, 1, 1), loads(0, 8, 1, 1)}, append(pattern(13, 1), table...))
	want := Program{1, []Part{{5, []byte("\x7fELF"), 4}, {6, []byte("ELF"), 9}}}
	reads(t, "a table at the end", with(file, 32, 8, uint64(len(file)-112)), want)
	refuses(t, "a table that begins one byte behind", with(file, 32, 8, uint64(len(file)-111)))
}

// P25.1: parts of other kinds are none, whatever their fields are; others stand in their order.
func TestKinds(t *testing.T) {
	data := pattern(8, 1)
	wild := row{Place: ones, At: 3, Length: ones, Size: 1}
	behind := row{Place: 1 << 40, Length: 5}
	long := row{Place: 64, Length: 9, Size: 8}
	for _, kind := range []uint32{0, 2, 3, 4, 6, 7, 0x101, 0x10001, 0x1000001, 0x80000001, 0x6474e551, 0xffffffff, 1 << 31} {
		wild.Kind, behind.Kind, long.Kind = kind, kind, kind
		first, last := loads(64+5*56, 100, 3, 4), loads(64+5*56+2, 50, 6, 6)
		want := Program{2, []Part{{100, data[:3], 4}, {50, data[2:], 6}}}
		reads(t, fmt.Sprintf("the kind %#x", kind), byHand(2, []row{wild, first, behind, last, long}, data), want)
		reads(t, fmt.Sprintf("the kind %#x alone", kind), byHand(2, []row{wild, behind, long}, data), Program{Entry: 2})
	}
	for _, r := range []row{wild, behind, long} {
		r.Kind = 1
		refuses(t, "one of the kind 1", byHand(2, []row{loads(64, 1, 1, 1), r}, data))
		refuses(t, "one of the kind 1, ahead", byHand(2, []row{r, loads(64, 1, 1, 1)}, data))
	}
}

// P25.1: a part's data lie in the file.
func TestData(t *testing.T) {
	file := byHand(0, []row{{}}, pattern(80, 5))
	n := uint64(len(file))
	for _, c := range []struct {
		place, length uint64
		right         bool
	}{
		{0, 0, true}, {0, 1, true}, {0, n, true}, {0, n + 1, false}, {120, 80, true}, {120, 81, false}, {121, 79, true}, {121, 80, false},
		{n - 1, 0, true}, {n - 1, 1, true}, {n - 1, 2, false}, {n, 0, true}, {n, 1, false}, {n + 1, 0, false}, {n + 1, 1, false},
		{ones, 0, false}, {ones, 1, false}, {ones, 2, false}, {ones, ones, false}, {0, ones, false}, {1, ones, false}, {n, ones, false},
		{top, top, false}, {top, 0, false}, {0, top, false}, {ones - 99, 100, false}, {ones - 99, 101, false}, {100, ones - 99, false}, {101, ones - 99, false},
		{1 << 32, 1, false}, {0, 1 << 32, false}, {1<<32 + 1, 0, false},
	} {
		r := loads(c.place, 1, c.length, ones)
		other := byHand(0, []row{r}, pattern(80, 5))
		want := Program{}
		if c.right {
			want.Parts = []Part{{1, other[c.place : c.place+c.length], ones}}
		}
		is(t, fmt.Sprintf("%#x bytes at %#x", c.length, c.place), other, want, c.right)
	}
}

// P25.1: a part's data are no more than its Size.
func TestSizes(t *testing.T) {
	data := pattern(300, 5)
	for _, n := range []uint64{0, 1, 2, 255, 256, 257, 300} {
		for _, size := range []uint64{0, 1, 2, 254, 255, 256, 257, 258, 299, 300, 301, 1 << 32, 1<<32 + 1, top, top + 1, ones} {
			file := byHand(0, []row{loads(120, base, n, size)}, data)
			is(t, fmt.Sprintf("%d of %#x", n, size), file, Program{0, []Part{{base, data[:n], size}}}, n <= size)
		}
	}
}

// P25.1: each field of an entry is taken whole, from its own place, or not at all.
func TestEntry(t *testing.T) {
	for bit := range 64 {
		w := uint64(1) << bit
		what := fmt.Sprintf("bit %d", bit)
		reads(t, what+" of At", byHand(0, []row{{Kind: 1, First: 77, At: w}}, nil), Program{0, []Part{{At: w}}})
		reads(t, what+" at 16", byHand(0, []row{{Kind: 1, First: w, At: 77}}, nil), Program{0, []Part{{At: 77}}})
		reads(t, what+" of Size", byHand(0, []row{{Kind: 1, Size: w}}, nil), Program{0, []Part{{Size: w}}})
		reads(t, what+" at 48", byHand(0, []row{{Kind: 1, Align: w}}, nil), Program{0, []Part{{}}})
		reads(t, what+" at 4", byHand(0, []row{{Kind: 1, Flags: uint32(w)}}, nil), Program{0, []Part{{}}})
		reads(t, what+" of Entry", byHand(w, nil, nil), Program{Entry: w})
	}
}

// P25.1: parts stand in their order, with what stands in them, the same piece of the file or not.
func TestOrder(t *testing.T) {
	data := pattern(40, 9)
	file := byHand(base, []row{loads(64+4*56+20, 30, 20, 20), loads(64+4*56, 20, 40, 50), loads(64+4*56+10, 30, 0, 0), loads(64+4*56, 10, 40, 50)}, data)
	reads(t, "four parts", file, Program{base, []Part{{30, data[20:], 20}, {20, data, 50}, {At: 30}, {10, data, 50}}})
}
