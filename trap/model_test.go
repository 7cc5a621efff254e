package trap

import (
	"math"
	"math/rand"

	"vireo/api"
	"vireo/csr"
)

const ones = math.MaxUint64

var modes = []api.Mode{api.User, api.Supervisor, api.Machine}

// Where the bits of Status stand, by their numbers in the chapter of layer 8.
const (
	sie  = 1
	mie  = 3
	spie = 5
	mpie = 7
	spp  = 8
	mpp  = 11 // and 12
	mprv = 17
	tvm  = 20
	tw   = 21
	tsr  = 22
)

// The model goes through a word bit by bit.

func at(w uint64, n int) bool { return w/(1<<n)%2 == 1 }

func with(w uint64, n int, is bool) uint64 {
	if at(w, n) && !is {
		return w - 1<<n
	}
	if !at(w, n) && is {
		return w + 1<<n
	}
	return w
}

// delegated: as P9.1 says.
func delegated(f csr.File, t api.Trap) bool {
	list := f.Medeleg
	if t.Interrupt {
		list = f.Mideleg
	}
	return f.Mode != api.Machine && at(list, t.Cause)
}

// entered: what a file is behind Enter, and what it answers, as P9.2 says.
func entered(f csr.File, t api.Trap, pc uint64) (csr.File, uint64) {
	cause, vector := uint64(t.Cause), f.Mtvec
	if t.Interrupt {
		cause += 1 << 63
	}
	if delegated(f, t) {
		vector = f.Stvec
		f.Scause, f.Sepc, f.Stval = cause, pc-pc%4, t.Value
		f.Status = with(f.Status, spie, at(f.Status, sie))
		f.Status = with(f.Status, sie, false)
		f.Status = with(f.Status, spp, f.Mode == api.Supervisor)
		f.Mode = api.Supervisor
	} else {
		f.Mcause, f.Mepc, f.Mtval = cause, pc-pc%4, t.Value
		f.Status = with(f.Status, mpie, at(f.Status, mie))
		f.Status = with(f.Status, mie, false)
		f.Status = with(f.Status, mpp, f.Mode != api.User)
		f.Status = with(f.Status, mpp+1, f.Mode == api.Machine)
		f.Mode = api.Machine
	}
	to := vector - vector%4
	if vector%2 == 1 && t.Interrupt {
		to += 4 * uint64(t.Cause)
	}
	return f, to
}

// next: which cause Next tells, as P9.3 says; -1: none.
func next(f csr.File) int {
	order := []int{11, 3, 7, 9, 1, 5}
	ready := func(n int) bool { return (at(f.Soft, n) || at(f.Lines, n)) && at(f.Mie, n) }
	for _, n := range order {
		if (f.Mode != api.Machine || at(f.Status, mie)) && ready(n) && !at(f.Mideleg, n) {
			return n
		}
	}
	for _, n := range order {
		if (f.Mode == api.User || f.Mode == api.Supervisor && at(f.Status, sie)) && ready(n) && at(f.Mideleg, n) {
			return n
		}
	}
	return -1
}

// backFromMachine: what a file is behind Mret, and what it answers, as P9.4 says.
func backFromMachine(f csr.File) (csr.File, uint64, bool) {
	if f.Mode != api.Machine {
		return f, 0, false
	}
	f.Mode = api.Mode(f.Status >> mpp % 4)
	f.Status = with(f.Status, mie, at(f.Status, mpie))
	f.Status = with(f.Status, mpie, true)
	f.Status = with(with(f.Status, mpp, false), mpp+1, false)
	if f.Mode != api.Machine {
		f.Status = with(f.Status, mprv, false)
	}
	return f, f.Mepc, true
}

// backFromSupervisor: likewise of Sret.
func backFromSupervisor(f csr.File) (csr.File, uint64, bool) {
	if f.Mode == api.User || f.Mode == api.Supervisor && at(f.Status, tsr) {
		return f, 0, false
	}
	f.Mode = api.User
	if at(f.Status, spp) {
		f.Mode = api.Supervisor
	}
	f.Status = with(f.Status, sie, at(f.Status, spie))
	f.Status = with(f.Status, spie, true)
	f.Status = with(f.Status, spp, false)
	f.Status = with(f.Status, mprv, false)
	return f, f.Sepc, true
}

// fill: a file in each of whose fields another word stands.
func fill(m api.Mode, word func() uint64) csr.File {
	f := csr.File{Mode: m}
	for _, p := range []*uint64{
		&f.Status, &f.Medeleg, &f.Mideleg, &f.Mie, &f.Soft, &f.Lines, &f.Mtvec, &f.Mcounteren, &f.Mscratch, &f.Mepc, &f.Mcause, &f.Mtval,
		&f.Stvec, &f.Scounteren, &f.Sscratch, &f.Sepc, &f.Scause, &f.Stval, &f.Satp, &f.Cycle, &f.Instret, &f.Time,
	} {
		*p = word()
	}
	return f
}

// counted: a file whose fields differ from one another, and no two bits of which stand alike in all.
func counted(m api.Mode) csr.File {
	count := uint64(0)
	return fill(m, func() uint64 { count += 0x0123456789abcdf1; return count })
}

// statuses: every word of the bits that these places name, with the others all 0 and all 1.
func statuses(places ...int) []uint64 {
	list := []uint64{0, ones}
	for _, n := range places {
		for _, w := range list {
			list = append(list, with(w, n, !at(w, n)))
		}
	}
	return list
}

// someTraps: every cause, as an interrupt and not, with several values.
func someTraps() []api.Trap {
	var list []api.Trap
	for cause := range 64 {
		for _, interrupt := range []bool{false, true} {
			list = append(list, api.Trap{Cause: cause, Interrupt: interrupt, Value: uint64(cause) * 0x1111111111111111})
		}
	}
	return append(list, api.Trap{Cause: 2, Value: ones}, api.Trap{Cause: 7, Value: ones, Interrupt: true}, api.Trap{})
}

// someFiles: as a hart begins, empty, with all ones, and with many words, in each mode.
func someFiles() []csr.File {
	list := []csr.File{csr.Begin()}
	chance := rand.New(rand.NewSource(9))
	for _, m := range modes {
		list = append(list, csr.File{Mode: m}, fill(m, func() uint64 { return ones }), counted(m))
		for range 30 {
			list = append(list, fill(m, chance.Uint64))
		}
	}
	return list
}
