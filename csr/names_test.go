package csr

import "testing"

// P8.1: the numbers by their constants.
func TestNumbers(t *testing.T) {
	for _, c := range []struct {
		name         string
		number, want int
	}{
		{"Sstatus", Sstatus, 0x100}, {"Sie", Sie, 0x104}, {"Stvec", Stvec, 0x105}, {"Scounteren", Scounteren, 0x106},
		{"Sscratch", Sscratch, 0x140}, {"Sepc", Sepc, 0x141}, {"Scause", Scause, 0x142}, {"Stval", Stval, 0x143}, {"Sip", Sip, 0x144}, {"Satp", Satp, 0x180},
		{"Mstatus", Mstatus, 0x300}, {"Misa", Misa, 0x301}, {"Medeleg", Medeleg, 0x302}, {"Mideleg", Mideleg, 0x303}, {"Mie", Mie, 0x304},
		{"Mtvec", Mtvec, 0x305}, {"Mcounteren", Mcounteren, 0x306}, {"Mscratch", Mscratch, 0x340}, {"Mepc", Mepc, 0x341}, {"Mcause", Mcause, 0x342},
		{"Mtval", Mtval, 0x343}, {"Mip", Mip, 0x344}, {"Mcycle", Mcycle, 0xb00}, {"Minstret", Minstret, 0xb02},
		{"Cycle", Cycle, 0xc00}, {"Time", Time, 0xc01}, {"Instret", Instret, 0xc02},
		{"Mvendorid", Mvendorid, 0xf11}, {"Marchid", Marchid, 0xf12}, {"Mimpid", Mimpid, 0xf13}, {"Mhartid", Mhartid, 0xf14},
	} {
		if c.number != c.want {
			t.Errorf("%s: %#x, not %#x", c.name, c.number, c.want)
		}
	}
}

// P8.1: the places in Status.
func TestPlaces(t *testing.T) {
	for _, c := range []struct {
		name        string
		place, want int
	}{
		{"BitSIE", BitSIE, 1}, {"BitMIE", BitMIE, 3}, {"BitSPIE", BitSPIE, 5}, {"BitMPIE", BitMPIE, 7}, {"BitSPP", BitSPP, 8}, {"BitMPP", BitMPP, 11},
		{"BitMPRV", BitMPRV, 17}, {"BitSUM", BitSUM, 18}, {"BitMXR", BitMXR, 19}, {"BitTVM", BitTVM, 20}, {"BitTW", BitTW, 21}, {"BitTSR", BitTSR, 22},
	} {
		if c.place != c.want {
			t.Errorf("%s: %d, not %d", c.name, c.place, c.want)
		}
	}
}

// P8.1: every register of the table.
func TestNames(t *testing.T) {
	list := rows()
	if len(list) != 31 {
		t.Fatalf("%d rows", len(list))
	}
	for _, r := range list {
		if !Known(r.number) || Name(r.number) != r.name {
			t.Errorf("%#x: %v, %q, not %q", r.number, Known(r.number), Name(r.number), r.name)
		}
	}
}

// P8.1: numbers below 0, between, and above the last.
func TestNoNames(t *testing.T) {
	for _, n := range otherNumbers() {
		if Known(n) || Name(n) != "" {
			t.Errorf("%#x: %v, %q", n, Known(n), Name(n))
		}
	}
}
