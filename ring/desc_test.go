package ring

import (
	"bytes"
	"math"
	"math/big"
	"math/rand"
	"testing"

	"vireo/api"
	"vireo/ram"
)

func TestDescSize(t *testing.T) {
	if DescSize != 16 {
		t.Errorf("DescSize: %d", DescSize)
	}
}

func tells(t *testing.T, m *ram.RAM, table uint64, i int, want api.Desc, is bool) {
	t.Helper()
	if got, ok := Desc(m, table, i); got != want || ok != is {
		t.Fatalf("Desc(%#x, %d) of %d bytes: %+v, %v, not %+v, %v", table, i, m.Size(), got, ok, want, is)
	}
}

// plain: the descriptor of 16 bytes, part by part.
func plain(b []byte) api.Desc {
	d := api.Desc{}
	for i := 7; i >= 0; i-- {
		d.Addr = d.Addr*256 + uint64(b[i])
	}
	for i := 11; i >= 8; i-- {
		d.Len = d.Len*256 + uint32(b[i])
	}
	d.Flags = uint16(b[13])*256 + uint16(b[12])
	d.Next = uint16(b[15])*256 + uint16(b[14])
	return d
}

// P15.2: which byte belongs to which part, and in which order.
func TestDescOfUnlikeBytes(t *testing.T) {
	m := made(t, page)
	row := []byte{1, 2, 3, 4, 5, 6, 7, 8, 9, 10, 11, 12, 13, 14, 15, 16}
	d := api.Desc{Addr: 0x0807060504030201, Len: 0x0c0b0a09, Flags: 0x0e0d, Next: 0x100f}
	m.Write(base+0x30, row)
	tells(t, m, base, 3, d, true)
	tells(t, m, base+0x10, 2, d, true)
	tells(t, m, base+0x30, 0, d, true)
	tells(t, m, base+0x20, 0, api.Desc{}, true)
	tells(t, m, base+0x40, 0, api.Desc{}, true)
	if got := Bytes(d); !bytes.Equal(got, row) {
		t.Errorf("Bytes: %v", got)
	}
}

// P15.2: Bytes, with each part alone all ones, and with one byte alone another one.
func TestBytes(t *testing.T) {
	f := byte(0xff)
	for _, c := range []struct {
		d    api.Desc
		want []byte
	}{
		{api.Desc{}, make([]byte, 16)},
		{api.Desc{Addr: ones}, []byte{f, f, f, f, f, f, f, f, 0, 0, 0, 0, 0, 0, 0, 0}},
		{api.Desc{Len: math.MaxUint32}, []byte{0, 0, 0, 0, 0, 0, 0, 0, f, f, f, f, 0, 0, 0, 0}},
		{api.Desc{Flags: math.MaxUint16}, []byte{0, 0, 0, 0, 0, 0, 0, 0, 0, 0, 0, 0, f, f, 0, 0}},
		{api.Desc{Next: math.MaxUint16}, []byte{0, 0, 0, 0, 0, 0, 0, 0, 0, 0, 0, 0, 0, 0, f, f}},
		{api.Desc{Addr: ones, Len: math.MaxUint32, Flags: math.MaxUint16, Next: math.MaxUint16}, bytes.Repeat([]byte{f}, 16)},
	} {
		if got := Bytes(c.d); !bytes.Equal(got, c.want) {
			t.Errorf("Bytes of %+v: %v", c.d, got)
		}
	}
	for i := range 16 {
		for b := range 256 {
			row := make([]byte, 16)
			row[i] = byte(b)
			if got := Bytes(plain(row)); !bytes.Equal(got, row) {
				t.Fatalf("Bytes of %+v: %v, not %v", plain(row), got, row)
			}
		}
	}
}

// P15.2: what Bytes tells, laid in the memory, is what Desc reads; and the other way round.
func TestDescOfBytes(t *testing.T) {
	chance := rand.New(rand.NewSource(2))
	m := made(t, small)
	for range 5000 {
		d := api.Desc{Addr: chance.Uint64(), Len: chance.Uint32(), Flags: uint16(chance.Uint32()), Next: uint16(chance.Uint32())}
		table, i := base+chance.Uint64()%(2*page), chance.Intn(256)
		row := Bytes(d)
		if plain(row) != d || !m.Write(table+16*uint64(i), row) {
			t.Fatalf("Bytes of %+v: %v", d, row)
		}
		tells(t, m, table, i, d, true)
	}
}

// P15.2: every number from 0 to 255, of tables that needn't be divided by anything.
func TestDescNumbers(t *testing.T) {
	m := filled(t, small)
	row := pattern(small)
	for _, off := range []uint64{0, 1, 7, 8, 16, page - 8, page + 3, small - 16*256} {
		for i := range 256 {
			from := off + 16*uint64(i)
			tells(t, m, base+off, i, plain(row[from:]), true)
		}
		for _, i := range append([]int{-2, -1, 256, 257, 258, 511, 512}, strange...) {
			tells(t, m, base+off, i, api.Desc{}, false)
		}
	}
}

// P15.2: a number that may not be is none, even where 16 bytes would lie in the memory.
func TestDescBesideTable(t *testing.T) {
	m := filled(t, small)
	table := uint64(base + 2*page)
	for i := -512; i < 0; i++ {
		tells(t, m, table, i, api.Desc{}, false)
	}
	for i := 256; i < 512; i++ {
		tells(t, m, table, i, api.Desc{}, false)
	}
}

// P15.2: tables across the memory's edges: the descriptor alone must lie in it, not the table.
func TestDescAtEdges(t *testing.T) {
	for _, memory := range []uint64{page, small} {
		m, row := filled(t, memory), pattern(memory)
		for off := -50; off <= 50; off++ {
			for _, i := range []int{0, 1, 2, 3, 100, 254, 255} {
				for _, edge := range []uint64{base, base + memory, base + memory - 16*256} {
					table := edge + uint64(off)
					at := int64(table) + 16*int64(i) - base
					if at < 0 || at+16 > int64(memory) {
						tells(t, m, table, i, api.Desc{}, false)
						continue
					}
					tells(t, m, table, i, plain(row[at:]), true)
				}
			}
		}
	}
	m, row := filled(t, page), pattern(page)
	tells(t, m, base-16*255, 255, plain(row), true)
	tells(t, m, base-16*255, 254, api.Desc{}, false)
	tells(t, m, base-16*255-1, 255, api.Desc{}, false)
	tells(t, m, base+page-16, 0, plain(row[page-16:]), true)
	tells(t, m, base+page-15, 0, api.Desc{}, false)
	tells(t, m, base+page-16, 1, api.Desc{}, false)
}

// P15.2: where table and 16 i run past the greatest address there is no descriptor.
func TestDescPastGreatestAddress(t *testing.T) {
	for _, m := range []*ram.RAM{filled(t, page), made(t, 1<<28)} {
		for _, table := range []uint64{ones, ones - 1, ones - 15, ones - 16, ones - 31, ones - 4079, ones - 4095, 1 << 63, 1<<63 + base, 1<<32 + base, 0, 1, 16, base - 4096} {
			for i := range 256 {
				tells(t, m, table, i, api.Desc{}, false)
			}
		}
		for _, i := range strange {
			// So many times 16 leads back to the memory's beginning, if the sum is cut.
			tells(t, m, uint64(base)-16*uint64(i), i, api.Desc{}, false)
		}
	}
}

// P15.2: any table and any number, held against numbers as great as one likes.
func TestDescOfAny(t *testing.T) {
	chance := rand.New(rand.NewSource(3))
	m, row := filled(t, small), pattern(small)
	came := 0
	for range 100000 {
		table, i := somePlace(chance, small, 16), chance.Intn(300)-20
		if chance.Intn(8) == 0 {
			i = strange[chance.Intn(len(strange))]
		}
		at := big.NewInt(16)
		at.Mul(at, big.NewInt(int64(i))).Add(at, great(table)).Sub(at, big.NewInt(base))
		if i < 0 || i > 255 || at.Sign() < 0 || at.Cmp(big.NewInt(small-16)) > 0 {
			tells(t, m, table, i, api.Desc{}, false)
			continue
		}
		came++
		tells(t, m, table, i, plain(row[at.Int64():]), true)
	}
	if came < 1000 {
		t.Errorf("only %d were there", came)
	}
}

// P15.2: a descriptor is read in one piece, and one that isn't there not at all; nothing is written.
func TestDescInOnePiece(t *testing.T) {
	m := filled(t, small)
	for _, i := range []int{0, 1, 200, 255} {
		watched(t, m, one(base+5+16*uint64(i), 16), nil, func() { Desc(m, base+5, i) })
	}
	watched(t, m, nil, nil, func() {
		Desc(m, base, -1)
		Desc(m, base, 256)
		Desc(m, base+small-8, 0)
		Desc(m, base-8, 0)
		Desc(m, ones, 1)
	})
	holds(t, m, pattern(small))
}
