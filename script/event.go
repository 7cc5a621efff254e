package script

import (
	"iter"
	"strings"

	"vireo/api"
	"vireo/word"
)

const remark = '#'

// lineEnds: what a line of a text may have at its ends, and doesn't count.
const lineEnds = blanks + "\n\r"

// Event: a line's event. ErrScript: it is none.
func Event(line string) (api.Event, api.Errno) {
	name, rest := cutName(line)
	kind := kindOf(name)
	switch kind {
	case api.EvStep, api.EvTick, api.EvFault:
		if n, ok := word.Parse(rest); ok {
			return api.Event{Kind: kind, Arg: n}, api.OK
		}
	case api.EvInput:
		if data, ok := Unquote(rest); ok {
			return api.Event{Kind: kind, Data: data}, api.OK
		}
	}
	return api.Event{}, api.ErrScript
}

// Line: an event's line; "" of none.
func Line(e api.Event) string {
	switch e.Kind {
	case api.EvStep, api.EvTick, api.EvFault:
		return nameOf(e.Kind) + " " + word.Hex(e.Arg)
	case api.EvInput:
		return nameOf(e.Kind) + " " + Quote(e.Data)
	}
	return ""
}

// Events: of a text, line by line; empty ones, and those that begin with #, are left out. The number of the first line that is none.
func Events(text string) ([]api.Event, api.Errno, int) {
	var out []api.Event
	for n, line := range linesOf(text) {
		line = strings.Trim(line, lineEnds)
		if line == "" || line[0] == remark {
			continue
		}
		e, no := Event(line)
		if no != api.OK {
			return nil, no, n
		}
		out = append(out, e)
	}
	return out, api.OK, 0
}

// linesOf: a text's lines, with their numbers; behind the last line's end is none.
func linesOf(text string) iter.Seq2[int, string] {
	return func(yield func(int, string) bool) {
		n, from := 0, 0
		for i := range len(text) {
			if text[i] != lineEnd {
				continue
			}
			if !yield(n, text[from:i]) {
				return
			}
			n, from = n+1, i+1
		}
		if from < len(text) {
			yield(n, text[from:])
		}
	}
}

// nameOf: that of a kind's lines; "" of none.
func nameOf(kind int) string {
	switch kind {
	case api.EvStep:
		return "step"
	case api.EvTick:
		return "tick"
	case api.EvInput:
		return "input"
	case api.EvFault:
		return "fault"
	}
	return ""
}

// kindOf: the kind of which lines have this name; 0, which is none, of others.
func kindOf(name string) int {
	for kind := api.EvStep; kind <= api.EvFault; kind++ {
		if nameOf(kind) == name {
			return kind
		}
	}
	return 0
}
