package blk

import (
	"slices"
	"testing"

	"vireo/api"
	"vireo/chain"
)

// ask: a request of a kind that is none, which asks nothing of the disk, with room for its end alone.
func (x *bench) ask(t *testing.T, at uint64) Done {
	t.Helper()
	x.m.Write(begins, headed(77, at))
	if n, ok := x.b.Use(chain.Chain{Segments: plain(0, 0)}); n != 1 || !ok {
		t.Fatalf("Use: %d, %v", n, ok)
	}
	return Done{Head{77, at}, unknown, 1}
}

// P19.2: all that was served since the log was last asked, in order, with how it ended, and how many bytes were written, the end among them.
func TestLog(t *testing.T) {
	x := over(t, 4, false)
	x.d.Fail(3)
	var list []Done
	for _, r := range []struct {
		kind  uint32
		at    uint64
		r, w  uint64
		end   byte
		count uint32
	}{
		{in, 1, 0, sector, good, 513},
		{out, 2, 2 * sector, 0, good, 1},
		{flush, 7, 0, 0, bad, 1},
		{flush, 7, 0, 0, good, 1},
		{getID, ones, 0, 20, good, 21},
		{in, 0, 0, 4 * sector, good, 2049},
		{in, 1, 0, 4 * sector, bad, 1},
		{in, 1, 1, sector, bad, 1},
		{out, 1, sector, 1, bad, 1},
		{getID, 0, 0, 21, bad, 1},
		{low, 1 << 63, 512, 512, unknown, 1},
		{flush, 7, 0, 0, good, 1},
	} {
		c := walked(t, x.m, plain(r.r, r.w))
		x.m.Write(begins, headed(r.kind, r.at))
		x.b.Use(c)
		list = append(list, Done{Head{r.kind, r.at}, r.end, r.count})
		x.b.Use(chain.Chain{Segments: []api.Segment{reads(begins, 15), writes(data, 513)}})
		x.b.Use(chain.Chain{Segments: []api.Segment{reads(begins, 16)}})
		x.b.Use(chain.Chain{})
	}
	x.logs(t, list...)
	x.logs(t)
	x.logs(t, x.ask(t, 5))
	x.logs(t)
}

// P19.2: the first 4096 alone are kept; what comes behind them is served, too, and once the log was asked it begins anew.
func TestLogIsFull(t *testing.T) {
	for _, n := range []int{4095, 4096, 4097, 9000} {
		x := over(t, 1, false)
		var list []Done
		for i := range n {
			list = append(list, x.ask(t, uint64(i)))
		}
		x.serveMore(t)
		if n == 4095 {
			list = append(list, Done{Head{flush, 3}, good, 1})
		}
		x.logs(t, list[:4096]...)
		x.logs(t)
		x.logs(t, x.ask(t, 1), x.ask(t, 2))
	}
}

// serveMore: a request that is served whether it is kept or not.
func (x *bench) serveMore(t *testing.T) {
	t.Helper()
	was := x.d.Flushes()
	x.m.Write(begins, headed(flush, 3))
	x.m.Store(data, 1, 0xee)
	x.b.Use(chain.Chain{Segments: plain(0, 0)})
	if w, _ := x.m.Load(data, 1); w != good || x.d.Flushes() != was+1 {
		t.Fatalf("the end is %d, with %d flushes", w, x.d.Flushes())
	}
}

// P19.2: what a driver does to the registers is nothing to the log.
func TestLogBehindReset(t *testing.T) {
	x := over(t, 1, false)
	list := []Done{x.ask(t, 1)}
	x.b.Store(x.m, 0x70, 4, 0)
	list = append(list, x.ask(t, 2))
	x.b.Break()
	list = append(list, x.ask(t, 3))
	x.b.Reset()
	x.logs(t, list...)
}

// P2, rule 4: what Log told is the asker's, with its spare room.
func TestLogIsTheAskersOwn(t *testing.T) {
	x := over(t, 1, false)
	spoil := func(list []Done) {
		list = list[:cap(list)]
		for i := range list {
			list[i] = Done{Head{9, 9}, 9, 9}
		}
	}
	var told []Done
	for range 5 {
		x.ask(t, 4)
	}
	first := x.b.Log()
	kept := slices.Clone(first)
	for i := range uint64(20) {
		told = append(told, x.ask(t, i))
	}
	if !slices.Equal(first, kept) {
		t.Fatalf("what was told has become %+v", first)
	}
	spoil(first)
	next := x.b.Log()
	if !slices.Equal(next, told) {
		t.Fatalf("Log: %+v, not %+v", next, told)
	}
	spoil(next)
	x.logs(t)
	x.logs(t, x.ask(t, 6))
}

// P19.2: each device has a log of its own, of one disk, too.
func TestLogsOfTheirOwn(t *testing.T) {
	x := over(t, 1, false)
	y := &bench{x.m, x.d, New(x.m, x.d, "another")}
	done := x.ask(t, 1)
	y.logs(t)
	other := y.ask(t, 2)
	x.logs(t, done)
	y.logs(t, other)
}
