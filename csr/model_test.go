package csr

import (
	"math"
	"math/rand"

	"vireo/api"
)

const ones = math.MaxUint64

// The model goes through a word bit by bit; which bits a row has is listed here by their places.

func at(w uint64, n int) bool { return w/(1<<n)%2 == 1 }

func word64(places ...int) uint64 {
	w := uint64(0)
	for _, n := range places {
		w += 1 << n
	}
	return w
}

// take: old, with w's bits at these places.
func take(old, w uint64, places ...int) uint64 {
	for _, n := range places {
		if at(old, n) && !at(w, n) {
			old -= 1 << n
		}
		if !at(old, n) && at(w, n) {
			old += 1 << n
		}
	}
	return old
}

// ofWord: the places of the bits of a word that are 1.
func ofWord(w uint64) []int {
	var list []int
	for n := range 64 {
		if at(w, n) {
			list = append(list, n)
		}
	}
	return list
}

var (
	statusPlaces  = []int{1, 3, 5, 7, 8, 11, 12, 17, 18, 19, 20, 21, 22}
	superPlaces   = []int{1, 5, 8, 18, 19}
	causePlaces   = []int{0, 1, 2, 3, 4, 5, 6, 7, 8, 9, 12, 13, 15}
	softPlaces    = []int{1, 5, 9}
	enablePlaces  = []int{1, 3, 5, 7, 9, 11}
	linePlaces    = []int{3, 7, 9, 11}
	counterPlaces = []int{0, 1, 2}
)

// row: a line of the chapter's table: what is read there, and what a file is when a word was written.
type row struct {
	number int
	name   string
	read   func(f File) uint64
	write  func(f File, w uint64) File
}

// plain: a row of what is told as kept, and that has some of the bits that are written.
func plain(number int, name string, field func(f *File) *uint64, places ...int) row {
	return row{number, name, func(f File) uint64 { return *field(&f) }, func(f File, w uint64) File {
		*field(&f) = take(0, w, places...)
		return f
	}}
}

// unlike: plain, but a word that isn't right is not taken at all.
func unlike(number int, name string, field func(f *File) *uint64, right func(w uint64) bool) row {
	return row{number, name, func(f File) uint64 { return *field(&f) }, func(f File, w uint64) File {
		if right(w) {
			*field(&f) = w
		}
		return f
	}}
}

// fixed: a row of what is only read.
func fixed(number int, name string, read func(f File) uint64) row {
	return row{number, name, read, func(f File, w uint64) File { return f }}
}

func nought(File) uint64 { return 0 }

func all() []int { return ofWord(ones) }

func (r row) is(names ...string) bool {
	for _, name := range names {
		if r.name == name {
			return true
		}
	}
	return false
}

func pending(f File) uint64 { return take(f.Soft, ones, ofWord(f.Lines)...) }

func statusRows() []row {
	return []row{
		{0x300, "mstatus", func(f File) uint64 { return take(f.Status, ones, 33, 35) }, func(f File, w uint64) File {
			kept := f.Status
			f.Status = take(f.Status, w, statusPlaces...)
			if at(w, 12) && !at(w, 11) {
				f.Status = take(f.Status, kept, 11, 12)
			}
			return f
		}},
		{0x100, "sstatus", func(f File) uint64 { return take(1<<33, f.Status, superPlaces...) }, func(f File, w uint64) File {
			f.Status = take(f.Status, w, superPlaces...)
			return f
		}},
		fixed(0x301, "misa", func(File) uint64 { return word64(63, 20, 18, 12, 8, 0) }),
	}
}

func interruptRows() []row {
	return []row{
		plain(0x302, "medeleg", func(f *File) *uint64 { return &f.Medeleg }, causePlaces...),
		plain(0x303, "mideleg", func(f *File) *uint64 { return &f.Mideleg }, softPlaces...),
		plain(0x304, "mie", func(f *File) *uint64 { return &f.Mie }, enablePlaces...),
		{0x104, "sie", func(f File) uint64 { return take(0, f.Mie, ofWord(f.Mideleg)...) }, func(f File, w uint64) File {
			f.Mie = take(f.Mie, w, ofWord(f.Mideleg)...)
			return f
		}},
		{0x344, "mip", pending, func(f File, w uint64) File {
			f.Soft = take(0, w, softPlaces...)
			return f
		}},
		{0x144, "sip", func(f File) uint64 { return take(0, pending(f), ofWord(f.Mideleg)...) }, func(f File, w uint64) File {
			if at(f.Mideleg, 1) {
				f.Soft = take(f.Soft, w, 1)
			}
			return f
		}},
	}
}

func keptRows() []row {
	straight := func(w uint64) bool { return !at(w, 1) }
	known := func(w uint64) bool { return w>>60 == 0 || w>>60 == 8 }
	above := all()[2:]
	return []row{
		unlike(0x305, "mtvec", func(f *File) *uint64 { return &f.Mtvec }, straight),
		unlike(0x105, "stvec", func(f *File) *uint64 { return &f.Stvec }, straight),
		plain(0x306, "mcounteren", func(f *File) *uint64 { return &f.Mcounteren }, counterPlaces...),
		plain(0x106, "scounteren", func(f *File) *uint64 { return &f.Scounteren }, counterPlaces...),
		plain(0x340, "mscratch", func(f *File) *uint64 { return &f.Mscratch }, all()...),
		plain(0x140, "sscratch", func(f *File) *uint64 { return &f.Sscratch }, all()...),
		plain(0x342, "mcause", func(f *File) *uint64 { return &f.Mcause }, all()...),
		plain(0x142, "scause", func(f *File) *uint64 { return &f.Scause }, all()...),
		plain(0x343, "mtval", func(f *File) *uint64 { return &f.Mtval }, all()...),
		plain(0x143, "stval", func(f *File) *uint64 { return &f.Stval }, all()...),
		plain(0xb00, "mcycle", func(f *File) *uint64 { return &f.Cycle }, all()...),
		plain(0xb02, "minstret", func(f *File) *uint64 { return &f.Instret }, all()...),
		plain(0x341, "mepc", func(f *File) *uint64 { return &f.Mepc }, above...),
		plain(0x141, "sepc", func(f *File) *uint64 { return &f.Sepc }, above...),
		unlike(0x180, "satp", func(f *File) *uint64 { return &f.Satp }, known),
	}
}

func readOnlyRows() []row {
	return []row{
		fixed(0xc00, "cycle", func(f File) uint64 { return f.Cycle }),
		fixed(0xc01, "time", func(f File) uint64 { return f.Time }),
		fixed(0xc02, "instret", func(f File) uint64 { return f.Instret }),
		fixed(0xf11, "mvendorid", nought),
		fixed(0xf12, "marchid", nought),
		fixed(0xf13, "mimpid", nought),
		fixed(0xf14, "mhartid", nought),
	}
}

// rows: the whole table, with 31 registers.
func rows() []row {
	list := append(statusRows(), interruptRows()...)
	return append(append(list, keptRows()...), readOnlyRows()...)
}

// someNumbers: all that twelve bits can tell, below 0, above, and such as would name a register if they were cut.
func someNumbers() []int {
	list := []int{
		math.MinInt, math.MinInt + 0x300, math.MinInt32, -0x10000 + 0x300, -0x1000 + 0x300, -0x300, -0x180, -0x100, -2, -1,
		0x1000, 0x1001, 0x1100, 0x1300, 0x1f14, 0x2c00, 1<<16 + 0x300, 1<<32 + 0x300, 1<<32 + 0xc00, 1<<62 + 0x180, math.MaxInt32, math.MaxInt - 1, math.MaxInt,
	}
	for n := range 0x1000 {
		list = append(list, n)
	}
	return list
}

// otherNumbers: those of them that the table has not.
func otherNumbers() []int {
	known := map[int]int{}
	for _, r := range rows() {
		known[r.number]++
	}
	var list []int
	for _, n := range someNumbers() {
		if known[n] == 0 {
			list = append(list, n)
		}
	}
	return list
}

// someWords: 0, 1, all ones, every bit alone and every bit but one, every number in the four highest bits and in 11 and 12, the rows' masks and what is beside them.
func someWords() []uint64 {
	list := []uint64{0, 1, 2, 3, 4, 5, 6, 7, ones, ones - 1, ones - 2, ones - 3, 0x0123456789abcdef, 0xfedcba9876543210, 0xaaaaaaaaaaaaaaaa, 0x5555555555555555}
	for n := range 64 {
		list = append(list, 1<<n, ones-1<<n)
	}
	for n := range uint64(16) {
		list = append(list, n<<60, n<<60+0x80000, n<<60+0xfffffffffffffff)
	}
	for n := range uint64(4) {
		list = append(list, n<<11, n<<11+0x7e01aa, ones-3<<11+n<<11)
	}
	for _, mask := range []uint64{0x7e19aa, 0xc0122, 0xb3ff, 0x222, 0xaaa, 0xa88, 7, 3, 0xa00000000, 0x200000000} {
		list = append(list, mask, ones-mask)
	}
	return list
}

// fill: a file in each of whose fields another word stands.
func fill(next func() uint64) File {
	f := File{Mode: api.Machine}
	for _, p := range []*uint64{
		&f.Status, &f.Medeleg, &f.Mideleg, &f.Mie, &f.Soft, &f.Lines, &f.Mtvec, &f.Mcounteren, &f.Mscratch, &f.Mepc, &f.Mcause, &f.Mtval,
		&f.Stvec, &f.Scounteren, &f.Sscratch, &f.Sepc, &f.Scause, &f.Stval, &f.Satp, &f.Cycle, &f.Instret, &f.Time,
	} {
		*p = next()
	}
	return f
}

// someFiles: as it begins, with all ones, with another word in each field, in each mode, with several Mideleg, Soft and Lines, and by chance.
func someFiles() []File {
	count := uint64(0)
	counted := fill(func() uint64 { count += 0x1111; return count })
	list := []File{Begin(), {}, fill(func() uint64 { return ones }), counted}
	for _, m := range []api.Mode{api.User, api.Supervisor, api.Machine} {
		f := counted
		f.Mode = m
		list = append(list, f)
	}
	for _, mideleg := range []uint64{0, 2, 0x20, 0x200, 0x22, 0x202, 0x220, 0x222} {
		for _, bits := range []uint64{0, 0x222, 0xaaa, 0x888, 0x5555, ones} {
			f := counted
			f.Mideleg, f.Soft, f.Lines, f.Mie = mideleg, bits&0x222, 0xaaa-bits&0xaaa, bits
			list = append(list, f)
			f.Soft, f.Lines = 0, bits
			list = append(list, f)
		}
	}
	chance := rand.New(rand.NewSource(8))
	for range 20 {
		list = append(list, fill(chance.Uint64))
	}
	return list
}
