package csr

import "testing"

// P8.2: of mip and sip, what devices hold up of 222 doesn't count; what programs set does, and what devices hold up of others.
func TestRaw(t *testing.T) {
	for _, c := range []struct{ mideleg, soft, lines, mip, sip uint64 }{
		{0x222, 0, 0, 0, 0}, {0x222, 0, 0x200, 0, 0}, {0x222, 0, 0x222, 0, 0}, {0x222, 0, 0xa88, 0x888, 0}, {0x222, 0x222, 0, 0x222, 0x222}, {0x222, 2, 0x200, 2, 2},
		{0x222, 0x200, 0x200, 0x200, 0x200}, {0x222, 0x222, 0xa88, 0xaaa, 0x222}, {0x222, 0x222, 0x222, 0x222, 0x222}, {0x22, 0x222, 0x200, 0x222, 0x22}, {0, 0x222, 0xa88, 0xaaa, 0},
		{0x222, 0, ones, ones - 0x222, 0}, {ones, 0, ones, ones - 0x222, ones - 0x222}, {ones, ones, ones, ones, ones}, {0x888, 0, 0xa88, 0x888, 0x888}, {0x200, 0x20, 0x220, 0x20, 0},
	} {
		f := File{Mideleg: c.mideleg, Soft: c.soft, Lines: c.lines}
		if f.Raw(Mip) != c.mip || f.Raw(Sip) != c.sip {
			t.Errorf("%+v: mip %#x, not %#x; sip %#x, not %#x", f, f.Raw(Mip), c.mip, f.Raw(Sip), c.sip)
		}
		if f != (File{Mideleg: c.mideleg, Soft: c.soft, Lines: c.lines}) {
			t.Errorf("changed: %+v", f)
		}
	}
}

// P8.2: of mip and sip, too, as Read, where Lines has none of 222; of all others always.
func TestRawAsRead(t *testing.T) {
	for _, f := range someFiles() {
		for _, r := range rows() {
			if got := f.Raw(r.number); !r.is("mip", "sip") && got != f.Read(r.number) {
				t.Errorf("%s: %#x, not %#x", r.name, got, f.Read(r.number))
			}
		}
		f.Lines &^= 0x222
		if f.Raw(Mip) != f.Read(Mip) || f.Raw(Sip) != f.Read(Sip) {
			t.Errorf("%+v: mip %#x, sip %#x", f, f.Raw(Mip), f.Raw(Sip))
		}
	}
}

// P8.2: what Raw is for: setting a bit doesn't make a program's own of what a device holds up, and what it set stays.
func TestRawSetsNoLine(t *testing.T) {
	f := Begin()
	f.Hold(0xa88)
	f.Write(Mip, f.Raw(Mip)|2)
	if f.Soft != 2 || f.Read(Mip) != 0xa8a {
		t.Errorf("Soft %#x, mip %#x", f.Soft, f.Read(Mip))
	}
	f.Write(Mip, f.Raw(Mip)|0x200)
	f.Write(Mip, f.Raw(Mip)&^2)
	f.Hold(0)
	if f.Soft != 0x200 || f.Read(Mip) != 0x200 {
		t.Errorf("Soft %#x, mip %#x", f.Soft, f.Read(Mip))
	}
}
