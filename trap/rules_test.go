package trap

import (
	"math"
	"math/rand"
	"testing"

	"vireo/api"
	"vireo/csr"
)

type answers struct {
	delegated, wait, fence bool
	next                   api.Trap
	there                  bool
	call                   int
}

func ask(f *csr.File, x api.Trap) answers {
	t, ok := Next(f)
	return answers{delegated: Delegated(f, x), wait: MayWait(f), fence: MayFence(f), next: t, there: ok, call: Call(f)}
}

// P1: every call ends, and none panics, of files and traps that there are not, too; rule 2: beside false all is zero.
func TestAnyArgument(t *testing.T) {
	chance := rand.New(rand.NewSource(1))
	odd := []int{math.MinInt, -64, -1, 2, 4, 64, 65, 1 << 32, math.MaxInt}
	for range 100000 {
		f := fill(api.Mode(chance.Intn(4)), chance.Uint64)
		x := api.Trap{Cause: chance.Intn(64), Value: chance.Uint64(), Interrupt: chance.Intn(2) == 0}
		if chance.Intn(4) == 0 {
			f.Mode = api.Mode(odd[chance.Intn(len(odd))])
		}
		if chance.Intn(4) == 0 {
			x.Cause = odd[chance.Intn(len(odd))]
		}
		if got := ask(&f, x); !got.there && got.next != (api.Trap{}) {
			t.Fatalf("%+v beside false, of %+v", got.next, f)
		}
		Fault(x.Cause, x.Interrupt)
		Crooked(x.Cause)
		for _, way := range []func(f *csr.File) (uint64, bool){Mret, Sret} {
			back, before := f, f
			if at, ok := way(&back); !ok && (at != 0 || back != before) {
				t.Fatalf("%#x beside false; %+v, not %+v", at, back, before)
			}
		}
		Enter(&f, x, chance.Uint64())
	}
}

// P2: asking changes nothing, and what is told hangs on the file alone, not on what was asked or done ahead.
func TestAskingChangesNothing(t *testing.T) {
	files, list := someFiles(), someTraps()
	var first []answers
	for i, f := range files {
		before := f
		first = append(first, ask(&f, list[i%len(list)]))
		if f != before {
			t.Fatalf("%+v, not %+v", f, before)
		}
	}
	for i := len(files) - 1; i >= 0; i-- {
		worn := files[i]
		Enter(&worn, list[i%len(list)], 4)
		Mret(&worn)
		Sret(&worn)
		f := files[i]
		if again := ask(&f, list[i%len(list)]); again != first[i] {
			t.Errorf("%+v, then %+v, of %+v", first[i], again, f)
		}
	}
}

// P2: what is done to one file is not seen in another.
func TestFilesApart(t *testing.T) {
	one, other := csr.Begin(), csr.Begin()
	one.Write(csr.Mtvec, 0x101)
	Enter(&one, api.Trap{Cause: 7, Value: 5, Interrupt: true}, 0x80000000)
	Mret(&one)
	Sret(&one)
	if other != csr.Begin() {
		t.Errorf("%+v", other)
	}
	if to := Enter(&other, api.Trap{Cause: 7, Interrupt: true}, 0); to != 0 || other.Mtval != 0 || other.Mepc != 0 {
		t.Errorf("%#x; %+v", to, other)
	}
}
