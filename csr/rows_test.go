package csr

import "testing"

type writeCase struct{ before, w, after uint64 }

// writeAll: of a register that is told as kept, what it tells when a word stood there and another was written.
func writeAll(t *testing.T, field func(f *File) *uint64, n int, list []writeCase) {
	t.Helper()
	for _, c := range list {
		f := Begin()
		*field(&f) = c.before
		if got := f.Read(n); got != c.before {
			t.Errorf("%s: %#x, where %#x is kept", Name(n), got, c.before)
		}
		want := f
		*field(&want) = c.after
		if f.Write(n, c.w); f != want || f.Read(n) != c.after {
			t.Errorf("%s: %#x of %#x on %#x, not %#x", Name(n), f.Read(n), c.w, c.before, c.after)
		}
	}
}

// P8.2: what is fixed is told, too; of the mode that is kept the number 2 is not taken.
func TestMstatus(t *testing.T) {
	for _, c := range []struct{ before, w, after uint64 }{
		{0, 0, 0}, {0, 1, 0}, {0, ones, 0x7e19aa}, {0x7e19aa, 0, 0}, {0, ones - 0x7e19aa, 0}, {0x7e19aa, ones - 0x7e19aa, 0}, {0, 0x7e19aa, 0x7e19aa},
		{0, 0x800, 0x800}, {0, 0x1000, 0}, {0, 0x1800, 0x1800}, {0x800, 0x1000, 0x800}, {0x1800, 0x1000, 0x1800}, {0x1000, 0x1000, 0x1000}, {0x1800, 0x800, 0x800}, {0x1800, 0, 0},
		{0, ones - 0x800, 0x7e01aa}, {0x1800, ones - 0x800, 0x7e19aa}, {0x800, 0x100a, 0x80a}, {0x7e19aa, 0x1000, 0x1800}, {0, ones - 0x1000, 0x7e09aa},
		{1 << 40, 0, 1 << 40}, {1 << 63, ones, 1<<63 + 0x7e19aa}, {1, 0x1008, 9},
	} {
		f := Begin()
		f.Status = c.before
		if got := f.Read(Mstatus); got != c.before|0xa00000000 {
			t.Errorf("%#x, where %#x is kept", got, c.before)
		}
		if f.Write(Mstatus, c.w); f != (File{Mode: 3, Status: c.after}) || f.Read(Mstatus) != c.after|0xa00000000 {
			t.Errorf("%#x of %#x on %#x, not %#x", f.Read(Mstatus), c.w, c.before, c.after)
		}
	}
}

// P8.2: of Status the bits of c0122 alone, to be read and to be written.
func TestSstatus(t *testing.T) {
	for _, c := range []struct{ before, w, after, read uint64 }{
		{0, 0, 0, 0x200000000}, {0, 1, 0, 0x200000000}, {0, ones, 0xc0122, 0x2000c0122}, {ones, 0, ones - 0xc0122, 0x200000000}, {ones, ones, ones, 0x2000c0122},
		{0x7e19aa, 0, 0x721888, 0x200000000}, {0x7e19aa, 0x40000, 0x761888, 0x200040000}, {0, ones - 0xc0122, 0, 0x200000000}, {0x1800, 0x102, 0x1902, 0x200000102}, {0xc0122, 0x20, 0x20, 0x200000020},
		{0x800000000, 0, 0x800000000, 0x200000000}, {0x1800, 0x1000, 0x1800, 0x200000000},
	} {
		f := Begin()
		f.Status = c.before
		if f.Write(Sstatus, c.w); f != (File{Mode: 3, Status: c.after}) || f.Read(Sstatus) != c.read {
			t.Errorf("%#x of %#x on %#x, not %#x; Status %#x, not %#x", f.Read(Sstatus), c.w, c.before, c.read, f.Status, c.after)
		}
	}
}

// P8.2: always the same.
func TestMisa(t *testing.T) {
	for _, f := range someFiles() {
		for _, w := range []uint64{0, 1, ones, 0x8000000000141101} {
			before := f
			if f.Write(Misa, w); f != before || f.Read(Misa) != 0x8000000000141101 {
				t.Errorf("%#x; %+v, not %+v", f.Read(Misa), f, before)
			}
		}
	}
}

// P8.2: of what is written the row's bits.
func TestMasked(t *testing.T) {
	writeAll(t, func(f *File) *uint64 { return &f.Medeleg }, Medeleg, []writeCase{
		{0, 0, 0}, {0, 1, 1}, {0, ones, 0xb3ff}, {0xb3ff, 0, 0}, {0xff, 0x1100, 0x1100}, {0, 0x4c00, 0}, {0, ones - 0xb3ff, 0}, {7, 0xffff, 0xb3ff},
	})
	writeAll(t, func(f *File) *uint64 { return &f.Mideleg }, Mideleg, []writeCase{
		{0, 0, 0}, {0, 1, 0}, {0, ones, 0x222}, {0x222, 0, 0}, {0x222, 0x20, 0x20}, {0, 0xaaa, 0x222}, {2, ones - 0x222, 0},
	})
	writeAll(t, func(f *File) *uint64 { return &f.Mie }, Mie, []writeCase{
		{0, 0, 0}, {0, 1, 0}, {0, ones, 0xaaa}, {0xaaa, 0, 0}, {0xaaa, 0x80, 0x80}, {0, 0xfff, 0xaaa}, {2, ones - 0xaaa, 0},
	})
	counters := []writeCase{{0, 0, 0}, {0, 1, 1}, {0, 2, 2}, {0, 4, 4}, {0, ones, 7}, {7, 0, 0}, {7, 8, 0}, {7, ones - 7, 0}, {1, 0xe, 6}}
	writeAll(t, func(f *File) *uint64 { return &f.Mcounteren }, Mcounteren, counters)
	writeAll(t, func(f *File) *uint64 { return &f.Scounteren }, Scounteren, counters)
	places := []writeCase{{0, 0, 0}, {0, 1, 0}, {0, 2, 0}, {0, 3, 0}, {8, 7, 4}, {0, 4, 4}, {0, ones, ones - 3}, {ones - 3, 3, 0}, {0, 0x80000006, 0x80000004}}
	writeAll(t, func(f *File) *uint64 { return &f.Mepc }, Mepc, places)
	writeAll(t, func(f *File) *uint64 { return &f.Sepc }, Sepc, places)
}

// P8.2: Mie's bits of Mideleg.
func TestSie(t *testing.T) {
	for _, c := range []struct{ mideleg, mie, w, after, read uint64 }{
		{0, 0, ones, 0, 0}, {0, 0xaaa, 0, 0xaaa, 0}, {0x222, 0, ones, 0x222, 0x222}, {0x222, 0xaaa, 0, 0x888, 0}, {0x222, 0x888, 0x20, 0x8a8, 0x20}, {0x222, 0, 1, 0, 0},
		{2, 0, ones, 2, 2}, {0x20, 0xaaa, 0, 0xa8a, 0}, {0x200, 0x222, 0x22, 0x22, 0}, {0x202, 0x20, 0x222, 0x222, 0x202}, {0x222, 0, ones - 0x222, 0, 0}, {0x220, 2, 0x20, 0x22, 0x20},
	} {
		f := Begin()
		f.Mideleg, f.Mie = c.mideleg, c.mie
		if got := f.Read(Sie); got != c.mideleg&c.mie {
			t.Errorf("%#x of %#x with %#x", got, c.mie, c.mideleg)
		}
		f.Write(Sie, c.w)
		if f != (File{Mode: 3, Mideleg: c.mideleg, Mie: c.after}) || f.Read(Sie) != c.read {
			t.Errorf("%#x of %#x on %#x with %#x, not %#x; Mie %#x, not %#x", f.Read(Sie), c.w, c.mie, c.mideleg, c.read, f.Mie, c.after)
		}
	}
}

// P8.2: what is pending; Soft alone is written.
func TestMip(t *testing.T) {
	for _, c := range []struct{ soft, lines, w, after, read uint64 }{
		{0, 0, 0, 0, 0}, {0, 0, 1, 0, 0}, {0, 0, ones, 0x222, 0x222}, {0x222, 0, 0, 0, 0}, {0x222, 0xa88, 0, 0, 0xa88}, {0, 0xa88, ones, 0x222, 0xaaa}, {0, 0x80, 2, 2, 0x82},
		{0x200, 0x200, 0, 0, 0x200}, {2, 0, 0x888, 0, 0}, {0, 0, ones - 0x222, 0, 0}, {0x20, 0x8, 0x202, 0x202, 0x20a},
	} {
		for _, mideleg := range []uint64{0, 2, 0x222} {
			f := File{Mideleg: mideleg, Soft: c.soft, Lines: c.lines}
			if got := f.Read(Mip); got != c.soft|c.lines {
				t.Errorf("%#x of %#x and %#x", got, c.soft, c.lines)
			}
			f.Write(Mip, c.w)
			if f != (File{Mideleg: mideleg, Soft: c.after, Lines: c.lines}) || f.Read(Mip) != c.read {
				t.Errorf("%#x of %#x on %#x and %#x, not %#x; Soft %#x, not %#x", f.Read(Mip), c.w, c.soft, c.lines, c.read, f.Soft, c.after)
			}
		}
	}
}

// P8.2: of what is pending the bits of Mideleg; bit 1 alone is written, and where Mideleg has it.
func TestSip(t *testing.T) {
	for _, c := range []struct{ mideleg, soft, lines, w, after, read uint64 }{
		{0, 0, 0, ones, 0, 0}, {0, 0x222, 0xa88, 0, 0x222, 0}, {0, 2, 0, 0, 2, 0}, {2, 0, 0, ones, 2, 2}, {2, 2, 0, 0, 0, 0}, {2, 0x222, 0, 0, 0x220, 0},
		{0x222, 0, 0, ones, 2, 2}, {0x222, 0x222, 0xa88, 0, 0x220, 0x220}, {0x222, 0, 0xa88, 0, 0, 0x200}, {0x222, 0, 0xa88, 2, 2, 0x202}, {0x220, 0, 0x200, ones, 0, 0x200}, {0x220, 0x222, 0, 0, 0x222, 0x220},
		{0x222, 2, 0, ones - 2, 0, 0}, {0x20, 0x22, 0, 0, 0x22, 0x20}, {2, 0, 2, 0, 0, 2},
	} {
		f := File{Mideleg: c.mideleg, Soft: c.soft, Lines: c.lines}
		if got := f.Read(Sip); got != (c.soft|c.lines)&c.mideleg {
			t.Errorf("%#x of %#x and %#x with %#x", got, c.soft, c.lines, c.mideleg)
		}
		f.Write(Sip, c.w)
		if f != (File{Mideleg: c.mideleg, Soft: c.after, Lines: c.lines}) || f.Read(Sip) != c.read {
			t.Errorf("%#x of %#x on %#x and %#x with %#x, not %#x; Soft %#x, not %#x", f.Read(Sip), c.w, c.soft, c.lines, c.mideleg, c.read, f.Soft, c.after)
		}
	}
}

// P8.2: a word with bit 1 is not taken at all.
func TestVectors(t *testing.T) {
	list := []writeCase{
		{0, 0, 0}, {0, 1, 1}, {8, 2, 8}, {8, 3, 8}, {8, 4, 4}, {8, 5, 5}, {8, 6, 8}, {8, 7, 8}, {0, ones, 0}, {8, ones - 2, ones - 2}, {ones, 0, 0}, {8, 0x80000001, 0x80000001}, {8, 0x80000002, 8},
	}
	writeAll(t, func(f *File) *uint64 { return &f.Mtvec }, Mtvec, list)
	writeAll(t, func(f *File) *uint64 { return &f.Stvec }, Stvec, list)
}

// P8.2: words that are kept whole.
func TestWhole(t *testing.T) {
	list := []writeCase{{0, 0, 0}, {0, 1, 1}, {0, ones, ones}, {ones, 0, 0}, {1, 0x8000000000000007, 0x8000000000000007}, {ones, 0x5555555555555555, 0x5555555555555555}, {3, 2, 2}}
	for n, field := range map[int]func(f *File) *uint64{
		Mscratch: func(f *File) *uint64 { return &f.Mscratch },
		Sscratch: func(f *File) *uint64 { return &f.Sscratch },
		Mcause:   func(f *File) *uint64 { return &f.Mcause },
		Scause:   func(f *File) *uint64 { return &f.Scause },
		Mtval:    func(f *File) *uint64 { return &f.Mtval },
		Stval:    func(f *File) *uint64 { return &f.Stval },
		Mcycle:   func(f *File) *uint64 { return &f.Cycle },
		Minstret: func(f *File) *uint64 { return &f.Instret },
	} {
		writeAll(t, field, n, list)
	}
}

// P8.2: of the numbers of the four highest bits 0 and 8 alone are taken.
func TestSatp(t *testing.T) {
	for n := range uint64(16) {
		for _, low := range []uint64{0, 1, 0x80000, 0xfffffffffffffff} {
			before, w := uint64(0x8000000000012345), n<<60+low
			after := before
			if n == 0 || n == 8 {
				after = w
			}
			writeAll(t, func(f *File) *uint64 { return &f.Satp }, Satp, []writeCase{{before, w, after}})
		}
	}
	writeAll(t, func(f *File) *uint64 { return &f.Satp }, Satp, []writeCase{{0, 0, 0}, {0, 1, 1}, {5, ones, 5}, {5, 1 << 63, 1 << 63}, {5, 1 << 60, 5}, {5, 0x9 << 60, 5}})
}

// P8.2: those that are only read tell what is kept elsewhere, or 0.
func TestReadOnly(t *testing.T) {
	for _, f := range someFiles() {
		for _, c := range []struct {
			number int
			want   uint64
		}{
			{Cycle, f.Cycle}, {Time, f.Time}, {Instret, f.Instret}, {Mvendorid, 0}, {Marchid, 0}, {Mimpid, 0}, {Mhartid, 0},
		} {
			for _, w := range []uint64{0, 1, ones} {
				before := f
				if f.Write(c.number, w); f != before || f.Read(c.number) != c.want {
					t.Errorf("%s: %#x, not %#x; %+v, not %+v", Name(c.number), f.Read(c.number), c.want, f, before)
				}
			}
		}
	}
}

// P8.2: numbers that the table has not tell 0, and nothing is done.
func TestNoRegister(t *testing.T) {
	for _, f := range []File{Begin(), fill(func() uint64 { return ones }), {}} {
		for _, n := range otherNumbers() {
			before := f
			f.Write(n, ones)
			f.Write(n, 0)
			if f != before || f.Read(n) != 0 || f.Raw(n) != 0 {
				t.Errorf("%#x: %#x, %#x; %+v, not %+v", n, f.Read(n), f.Raw(n), f, before)
			}
		}
	}
}

// P8.2: every row, of many words on many files, held against the model.
func TestByModel(t *testing.T) {
	words := someWords()
	for _, r := range rows() {
		for _, before := range someFiles() {
			if got := before.Read(r.number); got != r.read(before) {
				t.Fatalf("%s of %+v: %#x, not %#x", r.name, before, got, r.read(before))
			}
			for _, w := range words {
				f, want := before, r.write(before, w)
				if f.Write(r.number, w); f != want || f.Read(r.number) != r.read(want) {
					t.Fatalf("%s: %#x on %+v: %+v, not %+v", r.name, w, before, f, want)
				}
			}
		}
	}
}

// P8.2: the chapter's own examples.
func TestExamples(t *testing.T) {
	f := Begin()
	f.Write(Mtvec, 0x80000100)
	if f.Write(Mtvec, 6); f.Read(Mtvec) != 0x80000100 {
		t.Errorf("mtvec: %#x", f.Read(Mtvec))
	}
	if f.Write(Mepc, 7); f.Read(Mepc) != 4 {
		t.Errorf("mepc: %#x", f.Read(Mepc))
	}
}
