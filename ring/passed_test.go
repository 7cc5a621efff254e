package ring

import (
	"math/rand"
	"testing"
)

func passed(t *testing.T, event, from, to uint16, want bool) {
	t.Helper()
	if got := Passed(event, from, to); got != want {
		t.Fatalf("Passed(%d, %d, %d): %v", event, from, to, got)
	}
}

// P15.4: events before, at, right behind and beyond the numbers.
func TestPassedOfSome(t *testing.T) {
	for _, c := range []struct {
		event, from, to uint16
		want            bool
	}{
		{9, 10, 12, false}, {10, 10, 12, true}, {11, 10, 12, true}, {12, 10, 12, false}, {13, 10, 12, false}, {0, 10, 12, false}, {65535, 10, 12, false},
		{5, 5, 6, true}, {4, 5, 6, false}, {6, 5, 6, false},
		{65535, 65535, 0, true}, {65534, 65535, 0, false}, {0, 65535, 0, false},
		{65535, 65534, 0, true}, {65534, 65534, 0, true}, {65533, 65534, 0, false}, {0, 65534, 0, false},
		{0, 65534, 2, true}, {1, 65534, 2, true}, {2, 65534, 2, false}, {1, 65534, 1, false}, {32768, 65534, 2, false},
		{0, 0, 65535, true}, {65534, 0, 65535, true}, {65535, 0, 65535, false},
		{1, 1, 0, true}, {65535, 1, 0, true}, {0, 1, 0, false},
		{0, 0, 32768, true}, {32767, 0, 32768, true}, {32768, 0, 32768, false}, {65535, 0, 32768, false},
	} {
		passed(t, c.event, c.from, c.to, c.want)
	}
}

// P15.4: none, if from is to.
func TestPassedOfNone(t *testing.T) {
	for n := range 65536 {
		at := uint16(n)
		for _, event := range []uint16{0, 1, at - 2, at - 1, at, at + 1, 32767, 32768, 65535, at + 32768} {
			passed(t, event, at, at, false)
		}
	}
}

// P15.4: all events, of numbers that are walked one by one.
func TestPassedAgainstWalk(t *testing.T) {
	chance := rand.New(rand.NewSource(6))
	edges := []uint16{0, 1, 2, 100, 255, 256, 257, 32767, 32768, 32769, 65534, 65535}
	for range 8 {
		edges = append(edges, uint16(chance.Uint32()))
	}
	for _, from := range edges {
		for _, to := range append(edges, from+1, from+2, from-1, from-2, from+32768) {
			var behind [65536]bool
			for n := int(from); n != int(to); {
				n = (n + 1) % 65536
				behind[n] = true
			}
			for event := range 65536 {
				if got := Passed(uint16(event), from, to); got != behind[(event+1)%65536] {
					t.Fatalf("Passed(%d, %d, %d): %v", event, from, to, got)
				}
			}
		}
	}
}
