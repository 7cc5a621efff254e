package tty

import (
	"vireo/api"
	"vireo/chain"
)

// receiver is the end at which the driver gets what was typed.
type receiver struct{ *TTY }

// transmitter is the end at which the driver gives what is to be seen.
type transmitter struct{ *TTY }

// Use: the first bytes that wait come into a chain; how many. False: none wait, and so the chain must.
func (r receiver) Use(c chain.Chain) (uint32, bool) {
	_, room := c.Sizes()
	if room == 0 {
		return 0, true
	}
	data := r.input.Take(int(min(room, api.MaxFifo)))
	c.Scatter(r.memory, 0, data)
	return uint32(len(data)), len(data) > 0
}

// Use: what a chain has comes to what was transmitted. It never has to wait.
func (t transmitter) Use(c chain.Chain) (uint32, bool) {
	size, _ := c.Sizes()
	// What won't be kept isn't read: a chain may name the same memory again and again, and so be longer than any memory.
	kept := min(size, api.MaxOutput-uint64(len(t.output)))
	data, _ := c.Gather(t.memory, 0, kept)
	t.output = append(t.output, data...)
	t.lost += size - kept
	return 0, true
}
