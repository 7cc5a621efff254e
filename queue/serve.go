package queue

import (
	"vireo/api"
	"vireo/chain"
	"vireo/ram"
)

// mostChains is how many come of a queue in one go: a device may lay further ones all the while, and it ends nonetheless.
const mostChains = 65537

// Serve: each chain that is offered, one behind the other, is given to a device, which says how many bytes it wrote, or (false) that it can't have it yet: then it stays. Whether the driver wants to be told; an error: nothing more may come of this queue.
func (q *Queue) Serve(m *ram.RAM, device func(chain.Chain) (uint32, bool)) (bool, api.Errno) {
	if !q.ready() {
		return false, api.OK
	}
	from := q.Used
	e := q.giveAll(m, device)
	// The device may have got at the queue itself: whether it is ready is asked anew.
	if !q.Ready {
		return false, e
	}
	if e == api.OK {
		q.Ask(m)
	}
	return q.Tells(m, from), e
}

// giveAll gives what is offered to a device, up to what it can't have yet.
func (q *Queue) giveAll(m *ram.RAM, device func(chain.Chain) (uint32, bool)) api.Errno {
	for range mostChains {
		ahead := q.Fetched
		item, is, e := q.Fetch(m)
		if !is {
			return e
		}
		count, done := use(device, item.Chain)
		if !done {
			q.Fetched = ahead
			return api.OK
		}
		q.Return(m, item.Head, count)
	}
	return api.OK
}

// use asks a device. One that panics, as one that is nil does, is taken as one that can't have the chain yet.
func use(device func(chain.Chain) (uint32, bool), c chain.Chain) (count uint32, done bool) {
	defer func() {
		if recover() != nil {
			count, done = 0, false
		}
	}()
	return device(c)
}
