package csr

type register struct {
	number int
	name   string
}

// registers: all that there are.
var registers = [...]register{
	{Sstatus, "sstatus"},
	{Sie, "sie"},
	{Stvec, "stvec"},
	{Scounteren, "scounteren"},
	{Sscratch, "sscratch"},
	{Sepc, "sepc"},
	{Scause, "scause"},
	{Stval, "stval"},
	{Sip, "sip"},
	{Satp, "satp"},
	{Mstatus, "mstatus"},
	{Misa, "misa"},
	{Medeleg, "medeleg"},
	{Mideleg, "mideleg"},
	{Mie, "mie"},
	{Mtvec, "mtvec"},
	{Mcounteren, "mcounteren"},
	{Mscratch, "mscratch"},
	{Mepc, "mepc"},
	{Mcause, "mcause"},
	{Mtval, "mtval"},
	{Mip, "mip"},
	{Mcycle, "mcycle"},
	{Minstret, "minstret"},
	{Cycle, "cycle"},
	{Time, "time"},
	{Instret, "instret"},
	{Mvendorid, "mvendorid"},
	{Marchid, "marchid"},
	{Mimpid, "mimpid"},
	{Mhartid, "mhartid"},
}

// Known: is there such a register?
func Known(n int) bool { return Name(n) != "" }

// Name: a register's; "" of none.
func Name(n int) string {
	for _, r := range registers {
		if r.number == n {
			return r.name
		}
	}
	return ""
}
