package tty

import (
	"bytes"
	"math/rand"
	"slices"
	"testing"

	"vireo/api"
)

// offered is a chain that the driver offered: its head and its pieces; or one that may not be.
type offered struct {
	head int
	list []api.Segment
	bad  bool
}

// model is a console as plainly as may be: memory as a row of bytes, queues as lists of chains.
type model struct {
	memory         []byte
	waiting        []byte
	taken, dropped uint64
	output         []byte
	lost           uint64
	queues         [2][]offered // what was offered, and wasn't used yet
	came, went     [2]int       // how many were offered, and used, since the device was begun
	broken         bool
	pending        uint32
}

// places: where the bytes of a chain lie in the memory, one behind the other.
func places(list []api.Segment, write bool) []uint64 {
	var out []uint64
	for _, s := range list {
		for i := range s.Len {
			if s.Write == write {
				out = append(out, s.At-base+i)
			}
		}
	}
	return out
}

// types: bytes are typed; how many came.
func (o *model) types(list []byte) int {
	came := 0
	for _, c := range list {
		if len(o.waiting) < row {
			o.waiting = append(o.waiting, c)
			came++
		} else {
			o.dropped++
		}
	}
	o.notified(0)
	return came
}

// notified: a queue is served.
func (o *model) notified(n int) {
	for !o.broken && len(o.queues[n]) > 0 {
		c := o.queues[n][0]
		if c.bad {
			o.broken = true
			o.pending |= 2
			return
		}
		if n == 0 && len(o.waiting) == 0 && len(places(c.list, true)) > 0 {
			return
		}
		count := 0
		if n == 0 {
			count = o.gets(c.list)
		} else {
			o.shows(c.list)
		}
		at := used(n) - base + 4 + 8*uint64(o.went[n]%entries)
		copy(o.memory[at:], []byte{byte(c.head), 0, 0, 0, byte(count), byte(count >> 8), 0, 0})
		o.went[n]++
		copy(o.memory[used(n)-base+2:], []byte{byte(o.went[n]), byte(o.went[n] >> 8)})
		o.pending |= 1
		o.queues[n] = o.queues[n][1:]
	}
}

// gets: the driver gets what waits, byte by byte; how many bytes.
func (o *model) gets(list []api.Segment) int {
	count := 0
	for _, at := range places(list, true) {
		if len(o.waiting) > 0 {
			o.memory[at] = o.waiting[0]
			o.waiting = o.waiting[1:]
			o.taken++
			count++
		}
	}
	return count
}

// shows: what the driver gives comes to what was transmitted, byte by byte.
func (o *model) shows(list []api.Segment) {
	for _, at := range places(list, false) {
		if len(o.output) < shown {
			o.output = append(o.output, o.memory[at])
		} else {
			o.lost++
		}
	}
}

// all: what stands in the memory.
func (x *bench) all() []byte {
	out, _ := x.m.Read(base, size)
	return out
}

// as: a device is as the model is.
func (x *bench) as(t *testing.T, o *model) {
	t.Helper()
	if !bytes.Equal(x.all(), o.memory) {
		t.Fatalf("the memory isn't as the model's")
	}
	x.waits(t, o.waiting, o.taken, o.dropped)
	x.told(t, o.output, o.lost)
	if x.c.Pending != o.pending || x.c.Live() == o.broken {
		t.Fatalf("the causes %d, Status %d; not %d, broken: %v", x.c.Pending, x.c.Bits, o.pending, o.broken)
	}
	for n, q := range x.c.Queues {
		if int(q.Used) != o.went[n] {
			t.Fatalf("queue %d: %d were used, not %d", n, q.Used, o.went[n])
		}
	}
}

// What comes by chance.

// someLen: mostly a small number, at times a great one.
func someLen(chance *rand.Rand) uint64 {
	return uint64(chance.Intn([]int{2, 10, 300, 5000}[chance.Intn(4)]))
}

// someList: some pieces that are to be read, some that are to be written, at most eight, perhaps one over the other.
func someList(chance *rand.Rand) []api.Segment {
	var list []api.Segment
	r, w := chance.Intn(5), chance.Intn(5)
	if r+w == 0 {
		w = 1
	}
	for i := range r + w {
		n := someLen(chance)
		from := uint64(data)
		if i < r && chance.Intn(10) == 0 {
			from = base
		}
		at := from + uint64(chance.Int63n(int64(end-from-n+1)))
		list = append(list, api.Segment{At: at, Len: n, Write: i >= r})
	}
	return list
}

// someOffer: the driver offers a chain more in a queue, if it has a place for it; seldom one that may not be.
func (x *bench) someOffer(chance *rand.Rand, o *model, n int) {
	if len(o.queues[n]) == entries/8 {
		return
	}
	c := offered{head: 8 * (o.came[n] % (entries / 8)), list: someList(chance), bad: chance.Intn(80) == 0}
	x.offer(n, c.head, c.list...)
	if c.bad {
		at := table(n) + 16*uint64(c.head)
		switch chance.Intn(3) {
		case 0:
			x.m.Store(at+12, 4, uint64(c.head)<<16|1)
		case 1:
			x.m.Store(at+12, 2, 4)
		case 2:
			x.m.Store(at, 8, end+1)
		}
	}
	o.came[n]++
	o.queues[n] = append(o.queues[n], c)
}

// restart: the driver begins the device anew; what was typed meanwhile waits.
func (x *bench) restart(t *testing.T, chance *rand.Rand, o *model) {
	t.Helper()
	x.drive(t, [2]uint64{0x70, 0})
	o.queues, o.came, o.went = [2][]offered{}, [2]int{}, [2]int{}
	list := pattern(int(someLen(chance)), chance.Intn(255))
	if got, want := x.c.Type(list...), o.types(list); got != want {
		t.Fatalf("Type of %d bytes: %d, not %d", len(list), got, want)
	}
	x.begin(t, 0)
	x.drive(t, [2]uint64{0x70, 15})
	o.broken, o.pending = false, 0
	o.memory = x.all()
}

// someEvent: what happens to a device and to its model.
func (x *bench) someEvent(t *testing.T, chance *rand.Rand, o *model) {
	t.Helper()
	switch chance.Intn(10) {
	case 0, 1, 2:
		list := pattern(int(someLen(chance)), chance.Intn(255))
		if got, want := x.c.Type(list...), o.types(list); got != want {
			t.Fatalf("Type of %d bytes: %d, not %d", len(list), got, want)
		}
	case 3, 4, 5, 6:
		n := chance.Intn(2)
		for range chance.Intn(4) {
			x.someOffer(chance, o, n)
		}
		o.memory = x.all()
		if chance.Intn(4) > 0 {
			x.notify(t, n)
			o.notified(n)
		}
	case 7:
		n := chance.Intn(2)
		x.c.Notified(n)
		o.notified(n)
	case 8:
		x.c.Notified([]int{-2, -1, 2, 3, 16, 65536}[chance.Intn(6)])
		if chance.Intn(3) == 0 {
			x.drive(t, [2]uint64{0x64, uint64(o.pending)})
			o.pending = 0
		}
	case 9:
		if o.broken || chance.Intn(20) == 0 {
			x.restart(t, chance, o)
		}
	}
}

// P20.1 to P20.4: whatever a driver and one who types do, held against the model: the device touches nothing but what its queues and its chains name.
func TestAgainstModel(t *testing.T) {
	chance := rand.New(rand.NewSource(20))
	taken, dropped, transmitted, lost, broke := uint64(0), uint64(0), 0, uint64(0), 0
	for range 30 {
		x := live(t, 0)
		o := &model{memory: x.all()}
		for range 300 {
			was := o.broken
			x.someEvent(t, chance, o)
			x.as(t, o)
			if o.broken && !was {
				broke++
			}
		}
		taken += o.taken
		dropped += o.dropped
		transmitted += len(o.output)
		lost += o.lost
	}
	if taken < 100000 || dropped < 100000 || transmitted < 500000 || lost < 100000 || broke < 30 {
		t.Errorf("%d were taken, %d dropped, %d transmitted, %d lost, %d devices broke", taken, dropped, transmitted, lost, broke)
	}
}

// P20.4: what the driver finds in its chains, by what was told to be used, and what waits behind it, is what was typed, as far as there was room, in order, wherever the one ends and the other begins.
func TestWhatIsTypedIsReceived(t *testing.T) {
	chance := rand.New(rand.NewSource(21))
	for range 40 {
		x := live(t, 0)
		var typed, received []byte
		lists := map[uint64][]api.Segment{}
		next := uint64(0)
		for i := range 60 {
			if chance.Intn(3) > 0 {
				list := make([]byte, someLen(chance))
				chance.Read(list)
				typed = append(typed, list[:x.c.Type(list...)]...)
			}
			if came, _ := x.m.Load(avail(0)+2, 2); came-next < 16 {
				head := 4 * (came % 16)
				at := data + 9000*(came%16)
				lists[head] = []api.Segment{writes(at, someLen(chance)), writes(at+6000, uint64(i%3)), writes(at+6100, uint64(chance.Intn(2000)))}
				x.offer(0, int(head), lists[head]...)
				x.notify(t, 0)
			}
			for went, _ := x.m.Load(used(0)+2, 2); next < went; next++ {
				head, _ := x.m.Load(used(0)+4+8*(next%entries), 4)
				count, _ := x.m.Load(used(0)+8+8*(next%entries), 4)
				received = append(received, x.got(lists[head], true)[:count]...)
			}
			if all := append(slices.Clone(received), x.c.Input().Peek(row)...); !bytes.Equal(all, typed) {
				t.Fatalf("%d bytes were typed, %d were received and wait", len(typed), len(all))
			}
		}
		if len(received) < 1000 || x.c.Input().Taken() != uint64(len(received)) {
			t.Errorf("%d bytes were received", len(received))
		}
	}
}

// P20.4: what was transmitted are the chains' bytes in order, as they stood when the driver told of them; behind the kept ones they are counted.
func TestWhatIsSentIsTransmitted(t *testing.T) {
	chance := rand.New(rand.NewSource(22))
	full := 0
	for range 40 {
		x := live(t, 0)
		var sent []byte
		for range 40 {
			for i := range chance.Intn(4) {
				n, m := someLen(chance), someLen(chance)
				at := data + uint64(i)*30000
				text := make([]byte, n+m)
				chance.Read(text)
				x.m.Write(at, text[:n])
				x.m.Write(at+10000, text[n:])
				x.offer(1, 4*i, reads(at, n), reads(at+10000, m), writes(at, uint64(chance.Intn(2))))
				sent = append(sent, text...)
			}
			x.notify(t, 1)
			x.told(t, sent[:min(len(sent), shown)], uint64(max(0, len(sent)-shown)))
		}
		if len(sent) > shown {
			full++
		}
	}
	if full < 5 || full > 38 {
		t.Errorf("%d times more was sent than is kept", full)
	}
}
