package csr

import (
	"math/rand"
	"testing"

	"vireo/api"
)

// sharing: of each register that may be written, whose Read may change then: its own, and those that tell of the same.
func sharing() map[string][]string {
	return map[string][]string{
		"mstatus": {"mstatus", "sstatus"}, "sstatus": {"mstatus", "sstatus"},
		"medeleg": {"medeleg"}, "mideleg": {"mideleg", "sie", "sip"},
		"mie": {"mie", "sie"}, "sie": {"mie", "sie"}, "mip": {"mip", "sip"}, "sip": {"mip", "sip"},
		"mtvec": {"mtvec"}, "stvec": {"stvec"}, "mcounteren": {"mcounteren"}, "scounteren": {"scounteren"},
		"mscratch": {"mscratch"}, "sscratch": {"sscratch"}, "mcause": {"mcause"}, "scause": {"scause"}, "mtval": {"mtval"}, "stval": {"stval"},
		"mcycle": {"mcycle", "cycle"}, "minstret": {"minstret", "instret"},
		"mepc": {"mepc"}, "sepc": {"sepc"}, "satp": {"satp"},
	}
}

// P8.5: a Write changes no register's Read but those that share what is kept, and nothing that isn't kept for them.
func TestWriteChangesNoOther(t *testing.T) {
	share, list := sharing(), rows()
	for _, r := range list {
		for _, before := range someFiles() {
			for _, w := range []uint64{0, 1, 4, ones, 1 << 63, 0x5555555555555555, 0x0aaaaaaaaaaaaaaa, 0x7e19aa, 0x222} {
				f := before
				f.Write(r.number, w)
				for _, other := range list {
					if f.Read(other.number) != before.Read(other.number) && !other.is(share[r.name]...) {
						t.Fatalf("%#x to %s: %s was %#x, is %#x", w, r.name, other.name, before.Read(other.number), f.Read(other.number))
					}
				}
				if f.Mode != before.Mode || f.Lines != before.Lines || f.Time != before.Time {
					t.Fatalf("%#x to %s: %+v, not %+v", w, r.name, f, before)
				}
			}
		}
	}
}

// P8.5: what is kept is shared, indeed.
func TestShared(t *testing.T) {
	for _, c := range []struct {
		write, read int
		want        uint64
	}{
		{Mstatus, Sstatus, 0x2000c0122}, {Sstatus, Mstatus, 0xa000c0122}, {Mie, Sie, 0x222}, {Sie, Mie, 0x222}, {Mip, Sip, 0x222}, {Sip, Mip, 2}, {Mcycle, Cycle, ones}, {Minstret, Instret, ones},
	} {
		f := Begin()
		f.Mideleg = 0x222
		if f.Write(c.write, ones); f.Read(c.read) != c.want {
			t.Errorf("%s behind %s: %#x, not %#x", Name(c.read), Name(c.write), f.Read(c.read), c.want)
		}
	}
}

// P8.5: written twice is as once.
func TestTwiceAsOnce(t *testing.T) {
	words := someWords()
	for _, n := range append(otherNumbers()[:200], 0x100, 0x104, 0x105, 0x106, 0x140, 0x141, 0x142, 0x143, 0x144, 0x180, 0x300, 0x301, 0x302, 0x303, 0x304, 0x305,
		0x306, 0x340, 0x341, 0x342, 0x343, 0x344, 0xb00, 0xb02, 0xc00, 0xc01, 0xc02, 0xf11, 0xf12, 0xf13, 0xf14) {
		for _, f := range someFiles() {
			for _, w := range words {
				f.Write(n, w)
				once := f
				if f.Write(n, w); f != once {
					t.Fatalf("%#x to %#x: %+v, then %+v", w, n, once, f)
				}
			}
		}
	}
}

// P1: every call ends, and none panics, at any number, any word, any bit, on any file.
func TestAnyArgument(t *testing.T) {
	chance := rand.New(rand.NewSource(1))
	numbers := someNumbers()
	for range 100000 {
		f := fill(chance.Uint64)
		f.Mode = api.Mode(chance.Uint64())
		n, w := numbers[chance.Intn(len(numbers))], chance.Uint64()
		if chance.Intn(4) == 0 {
			n = int(chance.Uint64())
		}
		f.Write(n, w)
		f.Hold(w)
		f.Set(n, w%2 == 0)
		f.Set(int(w), true)
		f.Keep(api.Mode(w))
		f.Keep(api.Mode(n))
		f.Is(n)
		if Known(n) != (Name(n) != "") || !Known(n) && (f.Read(n) != 0 || f.Raw(n) != 0 || f.May(n, false) || f.May(n, true)) {
			t.Fatalf("%#x of %+v", n, f)
		}
	}
}

// P2: asking changes nothing, and what is told hangs on the file alone.
func TestAskingChangesNothing(t *testing.T) {
	for _, f := range someFiles() {
		before, other := f, f
		for _, r := range rows() {
			read, raw, reads, writes := f.Read(r.number), f.Raw(r.number), f.May(r.number, false), f.May(r.number, true)
			f.Pending()
			f.Previous()
			f.Is(3)
			if f != before {
				t.Fatalf("%s: %+v, not %+v", r.name, f, before)
			}
			if other.Read(r.number) != read || other.Raw(r.number) != raw || other.May(r.number, false) != reads || other.May(r.number, true) != writes {
				t.Errorf("%s: another answer of a copy", r.name)
			}
		}
	}
}

// P2: files share nothing: what is done to one is not seen in its copy, nor in what Begin tells then.
func TestFilesApart(t *testing.T) {
	f := Begin()
	copied := f
	for _, r := range rows() {
		f.Write(r.number, 0x5555)
	}
	f.Hold(ones)
	f.Set(BitMIE, true)
	f.Keep(api.Supervisor)
	if copied != (File{Mode: api.Machine}) || Begin() != copied {
		t.Errorf("%+v, %+v", copied, Begin())
	}
}
