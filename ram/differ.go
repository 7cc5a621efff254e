package ram

import (
	"slices"

	"vireo/api"
)

// Same: do two have as many bytes, and the same ones?
func Same(a, b *RAM) bool { return a.Size() == b.Size() && len(unlike(a, b)) == 0 }

// Differ: where two memories of one size differ, piece by piece, rising; at most so many pieces.
func Differ(a, b *RAM, most int) []api.Span {
	if a.Size() != b.Size() || most < 1 {
		return nil
	}
	var out []api.Span
	for _, number := range unlike(a, b) {
		p, q := a.look(number), b.look(number)
		for i := range pageSize {
			if p[i] == q[i] {
				continue
			}
			out = stretch(out, number*api.PageSize+uint64(i))
			// Only one piece too many tells that the last one ahead of it has ended.
			if len(out) > most {
				return out[:most]
			}
		}
	}
	return out
}

// unlike: the numbers of the pages that differ, rising.
func unlike(a, b *RAM) []uint64 {
	if a.Size() == 0 || b.Size() == 0 {
		return nil
	}
	var out []uint64
	for number, p := range a.pages {
		if *p != *b.look(number) {
			out = append(out, number)
		}
	}
	for number, p := range b.pages {
		if _, both := a.pages[number]; !both && *p != (page{}) {
			out = append(out, number)
		}
	}
	slices.Sort(out)
	return out
}

// look: the page with a number, to be read alone: one that was never written is all 0.
func (m *RAM) look(number uint64) *page {
	if p, is := m.pages[number]; is {
		return p
	}
	return new(page)
}

// stretch: pieces with a byte more, whose address is above all of theirs.
func stretch(list []api.Span, at uint64) []api.Span {
	if last := len(list) - 1; last >= 0 && list[last].At+list[last].Len == at {
		list[last].Len++
		return list
	}
	return append(list, api.Span{At: at, Len: 1})
}
