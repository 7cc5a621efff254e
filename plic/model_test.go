package plic

import (
	"math"
	"math/rand"
	"slices"
	"testing"
)

const (
	ones = math.MaxUint64
	low  = 0xffffffff
	end  = 0x400000 // behind the last place
)

// strange: numbers that are neither of a source nor of a context, some of which would be if they were cut.
var strange = []int{
	math.MinInt, math.MinInt + 1, math.MinInt + 5, math.MinInt32, -65536, -256, -255, -64, -33, -32, -31, -2, -1, 32, 33, 63, 64, 65, 96, 255, 256, 257,
	65536, 65537, math.MaxInt32, 1 << 32, 1<<32 + 1, 1<<32 + 5, math.MaxInt - 31, math.MaxInt - 1, math.MaxInt,
}

// The model holds of each source what it is by marks of its own, and takes words' bits by quotients and rests.

type source struct {
	prio                 uint32
	high, waits, serving bool
}

type context struct {
	lets  [32]bool
	least uint32
}

type model struct {
	sources  [32]source
	contexts [2]context
}

func marks(w uint32) [32]bool {
	var out [32]bool
	for i := range out {
		out[i] = w%2 == 1
		w /= 2
	}
	return out
}

func sum(list [32]bool) uint32 {
	w := uint32(0)
	for i := 31; i >= 0; i-- {
		w *= 2
		if list[i] {
			w++
		}
	}
	return w
}

func modelOf(p Plic) *model {
	m := &model{}
	high, waits, serving := marks(p.High), marks(p.Waits), marks(p.Serving)
	for i := range m.sources {
		m.sources[i] = source{p.Prio[i], high[i], waits[i], serving[i]}
	}
	for c := range m.contexts {
		m.contexts[c] = context{marks(p.Lets[c]), p.Least[c]}
	}
	return m
}

func (m *model) plic() Plic {
	var p Plic
	var high, waits, serving [32]bool
	for i, s := range m.sources {
		p.Prio[i], high[i], waits[i], serving[i] = s.prio, s.high, s.waits, s.serving
	}
	p.High, p.Waits, p.Serving = sum(high), sum(waits), sum(serving)
	for c, x := range m.contexts {
		p.Lets[c], p.Least[c] = sum(x.lets), x.least
	}
	return p
}

func (m *model) rouse() {
	for i := 1; i <= 31; i++ {
		if s := &m.sources[i]; s.high && !s.serving {
			s.waits = true
		}
	}
}

func (m *model) line(n int, high bool) {
	if n < 1 || n > 31 {
		return
	}
	m.sources[n].high = high
	if high {
		m.rouse()
	}
}

// first: all that may be are laid out, then sorted by what comes first.
func (m *model) first(c int) int {
	var may []int
	for i := 1; i <= 31; i++ {
		if s := m.sources[i]; s.waits && m.contexts[c].lets[i] && s.prio > 0 {
			may = append(may, i)
		}
	}
	if len(may) == 0 {
		return 0
	}
	slices.SortFunc(may, func(a, b int) int {
		if pa, pb := m.sources[a].prio, m.sources[b].prio; pa != pb {
			return int(pb) - int(pa)
		}
		return a - b
	})
	return may[0]
}

func (m *model) take(c int) int {
	if c != 0 && c != 1 {
		return 0
	}
	n := m.first(c)
	if n > 0 {
		m.sources[n].waits, m.sources[n].serving = false, true
	}
	return n
}

func (m *model) done(c, n int) {
	if c != 0 && c != 1 || n < 1 || n > 31 || !m.contexts[c].lets[n] {
		return
	}
	m.sources[n].serving = false
	m.rouse()
}

func (m *model) lines() uint64 {
	w := uint64(0)
	for c, bit := range []uint64{2048, 512} {
		if n := m.first(c); n > 0 && m.sources[n].prio > m.contexts[c].least {
			w += bit
		}
	}
	return w
}

func (m *model) load(at uint64, n int) (uint64, bool) {
	if n != 4 || at%4 > 0 || at >= 4194304 {
		return 0, false
	}
	switch {
	case at < 0x80:
		return uint64(m.sources[at/4].prio), true
	case at == 0x1000:
		return uint64(m.plic().Waits), true
	case at == 0x2000:
		return uint64(sum(m.contexts[0].lets)), true
	case at == 0x2080:
		return uint64(sum(m.contexts[1].lets)), true
	case at == 0x200000:
		return uint64(m.contexts[0].least), true
	case at == 0x201000:
		return uint64(m.contexts[1].least), true
	case at == 0x200004:
		return uint64(m.take(0)), true
	case at == 0x201004:
		return uint64(m.take(1)), true
	}
	return 0, true
}

func (m *model) store(at uint64, n int, w uint64) bool {
	if n != 4 || at%4 > 0 || at >= 4194304 {
		return false
	}
	w %= 1 << 32
	switch {
	case at == 0:
	case at < 0x80:
		m.sources[at/4].prio = uint32(w % 8)
	case at == 0x2000:
		m.contexts[0].lets = marks(uint32(w - w%2))
	case at == 0x2080:
		m.contexts[1].lets = marks(uint32(w - w%2))
	case at == 0x200000:
		m.contexts[0].least = uint32(w % 8)
	case at == 0x201000:
		m.contexts[1].least = uint32(w % 8)
	case at == 0x200004 && w < 32:
		m.done(0, int(w))
	case at == 0x201004 && w < 32:
		m.done(1, int(w))
	}
	return true
}

func lineMakes(t *testing.T, before Plic, n int, high bool, want Plic) {
	t.Helper()
	p := before
	if p.Line(n, high); p != want {
		t.Fatalf("%+v: Line(%d, %v):\n%+v, not\n%+v", before, n, high, p, want)
	}
}

func takes(t *testing.T, before Plic, c, want int, then Plic) {
	t.Helper()
	p := before
	if n := p.Take(c); n != want || p != then {
		t.Fatalf("%+v: Take(%d): %d, not %d; then\n%+v, not\n%+v", before, c, n, want, p, then)
	}
}

func doneMakes(t *testing.T, before Plic, c, n int, want Plic) {
	t.Helper()
	p := before
	if p.Done(c, n); p != want {
		t.Fatalf("%+v: Done(%d, %d):\n%+v, not\n%+v", before, c, n, p, want)
	}
}

func lines(t *testing.T, before Plic, want uint64) {
	t.Helper()
	p := before
	if w := p.Lines(); w != want || p != before {
		t.Fatalf("%+v: Lines: %#x, not %#x; then %+v", before, w, want, p)
	}
}

// loads: Load tells this, and makes that of the state.
func loads(t *testing.T, before Plic, at uint64, n int, want uint64, may bool, then Plic) {
	t.Helper()
	p := before
	if got, ok := p.Load(at, n); got != want || ok != may || p != then {
		t.Fatalf("%+v: Load(%#x, %d): %#x, %v, not %#x, %v; then\n%+v, not\n%+v", before, at, n, got, ok, want, may, p, then)
	}
}

func stores(t *testing.T, before Plic, at uint64, n int, w uint64, may bool, then Plic) {
	t.Helper()
	p := before
	if ok := p.Store(at, n, w); ok != may || p != then {
		t.Fatalf("%+v: Store(%#x, %d, %#x): %v, not %v; then\n%+v, not\n%+v", before, at, n, w, ok, may, p, then)
	}
}

// with: a state with some things changed.
func with(p Plic, change func(p *Plic)) Plic {
	change(&p)
	return p
}

// someState: of few sources or of many, with few priorities or with all.
func someState(chance *rand.Rand) Plic {
	var p Plic
	some := func() uint32 {
		w := chance.Uint32()
		for range chance.Intn(3) {
			w &= chance.Uint32()
		}
		return w &^ 1
	}
	levels := 1 + chance.Intn(8)
	for i := 1; i <= 31; i++ {
		p.Prio[i] = uint32(chance.Intn(levels))
	}
	p.High, p.Waits, p.Serving = some(), some(), some()
	p.Waits &^= p.Serving
	for c := range p.Lets {
		p.Lets[c], p.Least[c] = some(), uint32(chance.Intn(levels))
	}
	return p
}

// somePlace: mostly about the registers and the end, and anywhere.
func somePlace(chance *rand.Rand) uint64 {
	near := []uint64{0, 0x70, 0x1000, 0x2000, 0x2080, 0x200000, 0x200000, 0x201000, 0x201000, end - 16}
	switch chance.Intn(16) {
	case 0:
		return chance.Uint64() >> chance.Intn(64)
	case 1:
		return uint64(chance.Intn(end))
	case 2:
		return near[chance.Intn(len(near))] + uint64(chance.Intn(32))
	case 3, 4, 5:
		return 4 * uint64(chance.Intn(32))
	}
	return near[chance.Intn(len(near))] + 4*uint64(chance.Intn(3))
}

func someBytes(chance *rand.Rand) int {
	switch chance.Intn(32) {
	case 0:
		return strange[chance.Intn(len(strange))]
	case 1:
		return chance.Intn(17)
	}
	return 4
}

// someNumber: mostly of a source, and of what lies beside them.
func someNumber(chance *rand.Rand) int {
	if chance.Intn(8) == 0 {
		return strange[chance.Intn(len(strange))]
	}
	return chance.Intn(32)
}

func someContext(chance *rand.Rand) int {
	if chance.Intn(8) == 0 {
		return strange[chance.Intn(len(strange))]
	}
	return chance.Intn(3)
}

// someWord: small ones, such as a source's number, with bits far above them or without.
func someWord(chance *rand.Rand) uint64 {
	switch chance.Intn(4) {
	case 0:
		return chance.Uint64() >> chance.Intn(64)
	case 1:
		return uint64(chance.Intn(32)) + uint64(chance.Uint32())<<32
	}
	return uint64(chance.Intn(40))
}
