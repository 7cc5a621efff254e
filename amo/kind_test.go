package amo

import "testing"

func kind(t *testing.T, name string, is func(op int) bool, some []int) {
	t.Helper()
	for _, op := range some {
		if !is(op) {
			t.Errorf("%s(%d): false", name, op)
		}
	}
	for _, op := range others(some...) {
		if is(op) {
			t.Errorf("%s(%d): true", name, op)
		}
	}
}

// P7.1: every operation, 0, and numbers that name none.
func TestKinds(t *testing.T) {
	kind(t, "Wide", Wide, wides)
	kind(t, "Reserves", Reserves, reserving)
	kind(t, "Conditional", Conditional, storing)
}
