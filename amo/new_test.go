package amo

import (
	"testing"

	"vireo/api"
)

type newCase struct{ old, reg, want uint64 }

func newAll(t *testing.T, op int, list []newCase) {
	t.Helper()
	for _, c := range list {
		if w, ok := New(op, c.old, c.reg); !ok || w != c.want {
			t.Errorf("New(%d, %#x, %#x): %#x, %v, not %#x", op, c.old, c.reg, w, ok, c.want)
		}
	}
}

// P7.2: the register's word, whatever stood there.
func TestSwap(t *testing.T) {
	newAll(t, api.AmoswapW, []newCase{
		{0, 0, 0}, {1, 2, 2}, {2, 1, 1}, {ones, 0, 0}, {0, ones, half}, {0, half, half}, {5, 1 << 31, 1 << 31}, {5, top, 0}, {0, 0x1234567887654321, 0x87654321},
		{0x1234567800000005, 7, 7},
	})
	newAll(t, api.AmoswapD, []newCase{
		{0, 0, 0}, {1, 2, 2}, {2, 1, 1}, {ones, 0, 0}, {0, ones, ones}, {0, half, half}, {5, 1 << 31, 1 << 31}, {5, top, top}, {0, 0x1234567887654321, 0x1234567887654321},
	})
}

// P7.2: both together; what is beyond is lost.
func TestAdd(t *testing.T) {
	newAll(t, api.AmoaddW, []newCase{
		{0, 0, 0}, {1, 2, 3}, {half, 1, 0}, {1, half, 0}, {half, half, half - 1}, {1 << 31, 1 << 31, 0}, {1<<31 - 1, 1, 1 << 31}, {1 << 31, half, 1<<31 - 1},
		{ones, 1, 0}, {ones, ones, half - 1}, {top, 1, 1}, {top, top, 0}, {0x1234567800000001, 0x8765432100000002, 3}, {0x12345678ffffffff, 0xffffffff00000002, 1},
	})
	newAll(t, api.AmoaddD, []newCase{
		{0, 0, 0}, {1, 2, 3}, {half, 1, 1 << 32}, {ones, 1, 0}, {1, ones, 0}, {ones, ones, ones - 1}, {1 << 31, 1 << 31, 1 << 32}, {top, top, 0}, {top - 1, 1, top},
		{top, ones, top - 1}, {0x1234567800000001, 0x8765432100000002, 0x9999999900000003},
	})
}

// P7.2: bit by bit.
func TestBitByBit(t *testing.T) {
	newAll(t, api.AmoxorW, []newCase{
		{0, 0, 0}, {0xc, 0xa, 6}, {half, 1, half - 1}, {ones, 0, half}, {ones, ones, 0}, {1 << 31, 1, 1<<31 + 1}, {1 << 31, 1 << 31, 0}, {top, 1, 1}, {0x123456780000000c, 0x876543210000000a, 6},
	})
	newAll(t, api.AmoxorD, []newCase{
		{0, 0, 0}, {0xc, 0xa, 6}, {ones, 1, ones - 1}, {ones, 0, ones}, {ones, ones, 0}, {top, 1 << 31, top + 1<<31}, {top, top, 0}, {0xc00000000000000c, 0xa00000000000000a, 0x6000000000000006},
	})
	newAll(t, api.AmoandW, []newCase{
		{0, 0, 0}, {0xc, 0xa, 8}, {half, 1, 1}, {ones, ones, half}, {ones, 0, 0}, {1 << 31, ones, 1 << 31}, {1 << 31, 1, 0}, {top, ones, 0}, {0x1234567800000000, ones, 0},
	})
	newAll(t, api.AmoandD, []newCase{
		{0, 0, 0}, {0xc, 0xa, 8}, {ones, 1, 1}, {ones, ones, ones}, {ones, 0, 0}, {top, ones, top}, {top, 1 << 31, 0}, {0xc00000000000000c, 0xa00000000000000a, 0x8000000000000008},
	})
	newAll(t, api.AmoorW, []newCase{
		{0, 0, 0}, {0xc, 0xa, 0xe}, {half, 1, half}, {0, ones, half}, {1 << 31, 1, 1<<31 + 1}, {top, 1, 1}, {0x123456780000000c, 0x876543210000000a, 0xe},
	})
	newAll(t, api.AmoorD, []newCase{
		{0, 0, 0}, {0xc, 0xa, 0xe}, {half, 1, half}, {0, ones, ones}, {top, 1 << 31, top + 1<<31}, {0xc00000000000000c, 0xa00000000000000a, 0xe00000000000000e},
	})
}

// P7.2: the less and the greater, with signs.
func TestMinMax(t *testing.T) {
	newAll(t, api.AmominW, []newCase{
		{0, 0, 0}, {1, 2, 1}, {2, 1, 1}, {half, 1, half}, {1, half, half}, {0, half, half}, {1 << 31, 1<<31 - 1, 1 << 31}, {1<<31 - 1, 1 << 31, 1 << 31}, {1 << 31, half, 1 << 31},
		{half, half - 1, half - 1}, {ones, 0, half}, {top, 1, 0}, {1, top, 0}, {top + 5, 3, 3}, {0x1234567800000001, 0x0000000100000002, 1}, {0xffffffff00000002, 1, 1},
	})
	newAll(t, api.AmomaxW, []newCase{
		{0, 0, 0}, {1, 2, 2}, {2, 1, 2}, {half, 1, 1}, {1, half, 1}, {0, half, 0}, {1 << 31, 1<<31 - 1, 1<<31 - 1}, {1<<31 - 1, 1 << 31, 1<<31 - 1}, {1 << 31, half, half},
		{half, half - 1, half}, {ones, 0, 0}, {top, 1, 1}, {1, top, 1}, {top + 5, 3, 5}, {0x1234567800000001, 0x0000000100000002, 2}, {0xffffffff00000002, 1, 2},
	})
	newAll(t, api.AmominD, []newCase{
		{0, 0, 0}, {1, 2, 1}, {2, 1, 1}, {half, 1, 1}, {ones, 1, ones}, {1, ones, ones}, {0, ones, ones}, {top, top - 1, top}, {top - 1, top, top}, {top, ones, top}, {ones, ones - 1, ones - 1},
		{1 << 31, 1<<31 - 1, 1<<31 - 1}, {0x1234567800000001, 0x0000000100000002, 0x0000000100000002},
	})
	newAll(t, api.AmomaxD, []newCase{
		{0, 0, 0}, {1, 2, 2}, {2, 1, 2}, {half, 1, half}, {ones, 1, 1}, {1, ones, 1}, {0, ones, 0}, {top, top - 1, top - 1}, {top - 1, top, top - 1}, {top, ones, ones}, {ones, ones - 1, ones},
		{1 << 31, 1<<31 - 1, 1 << 31}, {0x1234567800000001, 0x0000000100000002, 0x1234567800000001},
	})
}

// P7.2: the less and the greater, without signs.
func TestMinuMaxu(t *testing.T) {
	newAll(t, api.AmominuW, []newCase{
		{0, 0, 0}, {1, 2, 1}, {2, 1, 1}, {half, 1, 1}, {1, half, 1}, {0, half, 0}, {1 << 31, 1<<31 - 1, 1<<31 - 1}, {1<<31 - 1, 1 << 31, 1<<31 - 1}, {1 << 31, half, 1 << 31},
		{ones, ones, half}, {top, 1, 0}, {0x1234567800000001, 2, 1}, {0xffffffff00000001, 2, 1}, {2, 0x1234567800000001, 1},
	})
	newAll(t, api.AmomaxuW, []newCase{
		{0, 0, 0}, {1, 2, 2}, {2, 1, 2}, {half, 1, half}, {1, half, half}, {0, half, half}, {1 << 31, 1<<31 - 1, 1 << 31}, {1<<31 - 1, 1 << 31, 1 << 31}, {1 << 31, half, half},
		{ones, ones, half}, {top, 1, 1}, {0x1234567800000001, 2, 2}, {0xffffffff00000001, 2, 2}, {2, 0x1234567800000001, 2},
	})
	newAll(t, api.AmominuD, []newCase{
		{0, 0, 0}, {1, 2, 1}, {2, 1, 1}, {ones, 1, 1}, {1, ones, 1}, {0, ones, 0}, {top, top - 1, top - 1}, {top - 1, top, top - 1}, {top, ones, top}, {ones, ones, ones}, {0x1234567800000001, 2, 2},
	})
	newAll(t, api.AmomaxuD, []newCase{
		{0, 0, 0}, {1, 2, 2}, {2, 1, 2}, {ones, 1, ones}, {1, ones, ones}, {0, ones, ones}, {top, top - 1, top}, {top - 1, top, top}, {top, ones, ones}, {ones, ones, ones}, {0x1234567800000001, 2, 0x1234567800000001},
	})
}

// P7.2: each operation at all pairs of words, held against numbers as great as one likes.
func TestNewByModel(t *testing.T) {
	for _, r := range rows {
		for _, old := range someWords() {
			for _, reg := range someWords() {
				if w, ok := New(r.op, old, reg); !ok || w != r.want(old, reg) {
					t.Fatalf("%s of %#x and %#x: %#x, %v, not %#x", r.name, old, reg, w, ok, r.want(old, reg))
				}
			}
		}
	}
}

// P7.2: of those of W the high halves are nothing to the answer, and it has none.
func TestHighHalves(t *testing.T) {
	for _, r := range rows {
		if r.bits != 32 {
			continue
		}
		for _, old := range someWords() {
			for _, reg := range someWords() {
				low, _ := New(r.op, old&half, reg&half)
				for _, high := range []uint64{0, 1, 1 << 31, half} {
					if w, ok := New(r.op, old&half|high<<32, reg&half|(half-high)<<32); !ok || w != low || w > half {
						t.Fatalf("%s of %#x and %#x: %#x, %v; of the low halves %#x", r.name, old, reg, w, ok, low)
					}
				}
			}
		}
	}
}

// P7.2: others tell 0 and false, those that reserve and those that store by a reservation among them.
func TestNewOfOthers(t *testing.T) {
	for _, op := range others(making()...) {
		for _, old := range someWords() {
			for _, reg := range []uint64{0, 1, old, ^old, ones} {
				if w, ok := New(op, old, reg); w != 0 || ok {
					t.Fatalf("New(%d, %#x, %#x): %#x, %v", op, old, reg, w, ok)
				}
			}
		}
	}
}

// P7.2: Old of Wide ones is the word; of others the low half with its sign above.
func TestOld(t *testing.T) {
	for _, op := range wides {
		for _, w := range someWords() {
			if got := Old(op, w); got != w {
				t.Errorf("Old(%d, %#x): %#x", op, w, got)
			}
		}
	}
	for _, op := range others(wides...) {
		for _, c := range []struct{ old, want uint64 }{
			{0, 0}, {1, 1}, {1<<31 - 1, 1<<31 - 1}, {1 << 31, 0xffffffff80000000}, {half, ones}, {1 << 32, 0}, {top, 0}, {ones, ones}, {0xffffffff80000000, 0xffffffff80000000},
			{0xffffffff7fffffff, 0x7fffffff}, {0x1234567887654321, 0xffffffff87654321}, {0x8765432112345678, 0x12345678},
		} {
			if got := Old(op, c.old); got != c.want {
				t.Errorf("Old(%d, %#x): %#x, not %#x", op, c.old, got, c.want)
			}
		}
		for _, w := range someWords() {
			if got, want := Old(op, w), cut(signed(w, 32), 64); got != want {
				t.Errorf("Old(%d, %#x): %#x, not %#x", op, w, got, want)
			}
		}
	}
}

// P7.2: the chapter's own example.
func TestExample(t *testing.T) {
	if w, ok := New(api.AmoaddW, 0xffffffff, 1); w != 0 || !ok {
		t.Errorf("New: %#x, %v", w, ok)
	}
	if w := Old(api.AmoaddW, 0xffffffff); w != ones {
		t.Errorf("Old: %#x", w)
	}
}

// P7.4: each tells one of both words, together both, in either order.
func TestOneOfBoth(t *testing.T) {
	for _, pair := range []struct {
		less, greater int
		mask          uint64
	}{
		{api.AmominW, api.AmomaxW, half}, {api.AmominuW, api.AmomaxuW, half}, {api.AmominD, api.AmomaxD, ones}, {api.AmominuD, api.AmomaxuD, ones},
	} {
		for _, old := range someWords() {
			for _, reg := range someWords() {
				a, okA := New(pair.less, old, reg)
				b, okB := New(pair.greater, old, reg)
				first, second := old&pair.mask, reg&pair.mask
				if !okA || !okB || !(a == first && b == second || a == second && b == first) {
					t.Errorf("%d and %d of %#x and %#x: %#x and %#x", pair.less, pair.greater, old, reg, a, b)
				}
			}
		}
	}
}
