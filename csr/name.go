package csr

import (
	"vireo/api"
	"vireo/word"
)

// Known: is there such a register?
func Known(n int) bool { return Name(n) != "" }

// Name: a register's; "" of none.
func Name(n int) string {
	// A number tells who may use its register, so one short list is gone through, not all.
	switch api.Mode(word.Get(uint64(n), modeAt, modeBits)) {
	case api.User:
		return userName(n)
	case api.Supervisor:
		return supervisorName(n)
	}
	return machineName(n)
}

func userName(n int) string {
	switch n {
	case Cycle:
		return "cycle"
	case Time:
		return "time"
	case Instret:
		return "instret"
	}
	return ""
}

func supervisorName(n int) string {
	switch n {
	case Sstatus:
		return "sstatus"
	case Sie:
		return "sie"
	case Stvec:
		return "stvec"
	case Scounteren:
		return "scounteren"
	case Sscratch:
		return "sscratch"
	case Sepc:
		return "sepc"
	case Scause:
		return "scause"
	case Stval:
		return "stval"
	case Sip:
		return "sip"
	case Satp:
		return "satp"
	}
	return ""
}

func machineName(n int) string {
	switch n {
	case Mstatus:
		return "mstatus"
	case Misa:
		return "misa"
	case Medeleg:
		return "medeleg"
	case Mideleg:
		return "mideleg"
	case Mie:
		return "mie"
	case Mtvec:
		return "mtvec"
	case Mcounteren:
		return "mcounteren"
	case Mscratch:
		return "mscratch"
	case Mepc:
		return "mepc"
	case Mcause:
		return "mcause"
	case Mtval:
		return "mtval"
	case Mip:
		return "mip"
	case Mcycle:
		return "mcycle"
	case Minstret:
		return "minstret"
	case Mvendorid:
		return "mvendorid"
	case Marchid:
		return "marchid"
	case Mimpid:
		return "mimpid"
	case Mhartid:
		return "mhartid"
	}
	return ""
}
