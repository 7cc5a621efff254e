package script

import (
	"fmt"
	"strings"
	"testing"

	"vireo/api"
)

// P24.3: state at the beginning, and behind steps and ticks.
func TestState(t *testing.T) {
	s := does(t, "addi x1,x0,5", "ecall", "jal x0,0")
	s.CSR.Mtvec = base + 8
	s.each(t,
		[2]string{"state", "mode 3, pc 0x80000000, steps 0, done 0, time 0x0, lines 0x0, flags ---"},
		[2]string{"step 1", "ok"},
		[2]string{"state", "mode 3, pc 0x80000004, steps 1, done 1, time 0x0, lines 0x0, flags ---"},
		[2]string{"tick 26", "ok"},
		[2]string{"state", "mode 3, pc 0x80000004, steps 1, done 1, time 0x1a, lines 0x0, flags ---"},
		// A trap is a step in which nothing is done.
		[2]string{"step 1", "ok"},
		[2]string{" \tstate\t ", "mode 3, pc 0x80000008, steps 2, done 1, time 0x1a, lines 0x0, flags ---"},
		[2]string{"step 10", "ok"},
		[2]string{"state", "mode 3, pc 0x80000008, steps 12, done 11, time 0x1a, lines 0x0, flags ---"},
		[2]string{"step 65536", "ok"},
		[2]string{"state", "mode 3, pc 0x80000008, steps 65548, done 65547, time 0x1a, lines 0x0, flags ---"},
		[2]string{"tick 0xffffffffffffffe0", "ok"},
		[2]string{"state", "mode 3, pc 0x80000008, steps 65548, done 65547, time 0xfffffffffffffffa, lines 0x0, flags ---"},
		[2]string{"tick 5", "ok"},
		[2]string{"state", "mode 3, pc 0x80000008, steps 65548, done 65547, time 0xffffffffffffffff, lines 0x80, flags ---"},
		[2]string{"tick 1", "ok"},
		[2]string{"state", "mode 3, pc 0x80000008, steps 65548, done 65547, time 0x0, lines 0x0, flags ---"},
	)
}

// P24.3: the modes that the hart comes to.
func TestStatesMode(t *testing.T) {
	for _, c := range []struct {
		status uint64
		mode   int
	}{{0, 0}, {1 << 11, 1}, {3 << 11, 3}} {
		s := does(t, "mret")
		s.CSR.Status, s.CSR.Mepc = c.status, base+0x40
		s.each(t,
			[2]string{"state", "mode 3, pc 0x80000000, steps 0, done 0, time 0x0, lines 0x0, flags ---"},
			[2]string{"step 1", "ok"},
			[2]string{"state", fmt.Sprintf("mode %d, pc 0x80000040, steps 1, done 1, time 0x0, lines 0x0, flags ---", c.mode)},
		)
	}
}

// P24.3: the lines are those that are held up now, whether the hart has seen them or not.
func TestStatesLines(t *testing.T) {
	s := does(t, "jal x0,0")
	lines := func(want uint64) {
		t.Helper()
		if got := s.Do("state"); !strings.Contains(got, fmt.Sprintf(", lines %#x, flags ", want)) {
			t.Errorf("%s, not lines %#x", got, want)
		}
	}
	lines(0)
	s.Store(clintAt+0x4000, 8, 5)
	s.says(t, "tick 4", "ok")
	lines(0)
	s.says(t, "tick 1", "ok")
	lines(0x80)
	s.says(t, "step 1", "ok")
	lines(0x80)
	s.Store(clintAt, 4, 1)
	lines(0x88)
	s.Store(clintAt+0x4000, 8, 6)
	lines(8)
	begins(s.Machine, ttyAt, rxQ, txQ)
	transmits(s.Machine, 1, []byte("a"))
	lines(8)
	lets(s.Machine)
	lines(0xa08)
	s.says(t, "step 1", "ok")
	s.Store(clintAt, 4, 0)
	lines(0xa00)
	if _, ok := s.Load(plicAt+0x200004, 4); !ok {
		t.Errorf("nothing is claimed")
	}
	lines(0)
	s.CSR.Lines = 0xa88
	lines(0)
}

// P24.3: each of the flags, alone and beside others.
func TestStatesFlags(t *testing.T) {
	for n := range 8 {
		s := does(t, "wfi", "jal x0,0")
		want := []byte("---")
		if n&1 != 0 {
			s.says(t, "step 1", "ok")
			want[0] = 'w'
		}
		if n&2 != 0 {
			begins(s.Machine, blkAt, blkQ)
			want[1] = 'b'
		}
		if n&4 != 0 {
			begins(s.Machine, ttyAt, rxQ, txQ)
			want[2] = 't'
		}
		pc, steps := base+4*(n&1), n&1
		s.says(t, "state", fmt.Sprintf("mode 3, pc %#x, steps %d, done %d, time 0x0, lines 0x0, flags %s", pc, steps, steps, want))
		// What goes goes from the flags, too.
		s.Store(blkAt+0x70, 4, 0)
		s.Store(ttyAt+0x70, 4, 0)
		s.Waits = false
		s.says(t, "state", fmt.Sprintf("mode 3, pc %#x, steps %d, done %d, time 0x0, lines 0x0, flags ---", pc, steps, steps))
	}
	// A device whose driver has come but half of the way isn't live, nor is one that needs a reset.
	s := does(t)
	for _, status := range []uint64{1, 3} {
		s.Store(blkAt+0x70, 4, status)
		s.says(t, "state", "mode 3, pc 0x80000000, steps 0, done 0, time 0x0, lines 0x0, flags ---")
	}
	begins(s.Machine, blkAt, blkQ)
	s.says(t, "state", "mode 3, pc 0x80000000, steps 0, done 0, time 0x0, lines 0x0, flags -b-")
	// A chain that leads to itself.
	s.Store(blkQ, 8, base)
	s.Store(blkQ+8, 8, 1|1<<32)
	s.Store(blkQ+availAt+2, 2, 1)
	s.Store(blkAt+0x50, 4, 0)
	s.says(t, "state", "mode 3, pc 0x80000000, steps 0, done 0, time 0x0, lines 0x0, flags ---")
	if s.Blk.Bits&64 == 0 {
		t.Errorf("the device's status is %d", s.Blk.Bits)
	}
}

// P24.3: a hart that waits does steps in which nothing is done.
func TestStatesSteps(t *testing.T) {
	s := does(t, "wfi", "addi x1,x0,1")
	s.CSR.Mie = 0x80
	s.each(t,
		[2]string{"step 5", "ok"},
		[2]string{"state", "mode 3, pc 0x80000004, steps 5, done 1, time 0x0, lines 0x0, flags w--"},
		[2]string{"tick 0xffffffffffffffff", "ok"},
		[2]string{"state", "mode 3, pc 0x80000004, steps 5, done 1, time 0xffffffffffffffff, lines 0x80, flags w--"},
		[2]string{"step 1", "ok"},
		[2]string{"state", "mode 3, pc 0x80000008, steps 6, done 2, time 0xffffffffffffffff, lines 0x80, flags ---"},
	)
}

// P24.3: how many steps there were is the machine's count, which no program writes.
func TestStatesCount(t *testing.T) {
	s := does(t, "csrrw x0,0xb00,x1", "csrrw x0,0xb02,x0", "jal x0,0")
	s.X[1] = 1000
	s.each(t,
		[2]string{"step 2", "ok"},
		[2]string{"csr mcycle", "0x3e9"},
		[2]string{"state", "mode 3, pc 0x80000008, steps 2, done 1, time 0x0, lines 0x0, flags ---"},
	)
}

// P24.3: numbers in decimal digits are word.Dec's: those of 64 bits have a sign. (A program may write how many were done.)
func TestStatesDigits(t *testing.T) {
	s := does(t, "csrrw x0,0xb02,x1", "jal x0,0")
	s.X[1] = ones - 1
	s.each(t,
		[2]string{"step 1", "ok"},
		[2]string{"state", "mode 3, pc 0x80000004, steps 1, done -1, time 0x0, lines 0x0, flags ---"},
		[2]string{"step 2", "ok"},
		[2]string{"state", "mode 3, pc 0x80000004, steps 3, done 1, time 0x0, lines 0x0, flags ---"},
	)
	s.CSR.Instret = top - 1
	s.says(t, "state", "mode 3, pc 0x80000004, steps 3, done 9223372036854775807, time 0x0, lines 0x0, flags ---")
	s.CSR.Mode = api.Mode(-5)
	s.CSR.Instret = top
	s.says(t, "state", "mode -5, pc 0x80000004, steps 3, done -9223372036854775808, time 0x0, lines 0x0, flags ---")
}

// P24.3: a session that works, whole.
func TestStateOfOneThatWorks(t *testing.T) {
	s := works(t)
	s.says(t, "state", "mode 3, pc 0x80000010, steps 10, done 10, time 0x63, lines 0xa00, flags -bt")
}
