package blk

import (
	"vireo/api"
	"vireo/chain"
	"vireo/word"
)

// HeadSize is how many bytes a request begins with.
const HeadSize = 16

// Where the parts of a request's beginning stand; what is between them doesn't count.
const (
	kindEnd  = 4
	sectorAt = 8
)

const (
	endSize  = 1
	mostData = api.MaxSectors * api.SectorSize // the most bytes of a request's sectors
)

// Head is a request's beginning: its kind, and its first sector.
type Head struct {
	Kind   uint32
	Sector uint64
}

// request is a beginning, the chain that it came by, and how many bytes this has besides: to be read behind the beginning, and to be written ahead of the end.
type request struct {
	Head
	chain chain.Chain
	read  uint64
	room  uint64
}

// Parse: a request's beginning; false: there is none.
func Parse(data []byte) (Head, bool) {
	if len(data) < HeadSize {
		return Head{}, false
	}
	return Head{
		Kind:   uint32(word.Of(data[:kindEnd]...)),
		Sector: word.Of(data[sectorAt:HeadSize]...),
	}, true
}

// Use: a chain, which is served, if it is a request; how many bytes were written. It never has to wait.
func (b *Blk) Use(c chain.Chain) (uint32, bool) {
	q, is := b.requestOf(c)
	if !is {
		return 0, true
	}
	data, status := b.do(q)
	// The end comes last: pieces of a chain may lie one over the other, and the driver asks the end first.
	c.Scatter(b.memory, 0, data)
	c.Scatter(b.memory, q.room, []byte{status})
	count := uint32(len(data) + endSize)
	b.keep(Done{Head: q.Head, Status: status, Count: count})
	return count, true
}

// requestOf: what a chain asks for; false: it has no room for a beginning, or for an end.
func (b *Blk) requestOf(c chain.Chain) (request, bool) {
	read, written := c.Sizes()
	if read < HeadSize || written < endSize {
		return request{}, false
	}
	data, _ := c.Gather(b.memory, 0, HeadSize)
	head, is := Parse(data)
	return request{Head: head, chain: c, read: read - HeadSize, room: written - endSize}, is
}

// do: what a request asks for is done; what is to be written, and how it ended.
func (b *Blk) do(q request) ([]byte, byte) {
	switch q.Kind {
	case api.BlkIn:
		return b.in(q)
	case api.BlkOut:
		return nil, b.out(q)
	case api.BlkFlush:
		return nil, b.flush(q)
	case api.BlkGetID:
		return b.getID(q)
	}
	return nil, api.BlkUnsupp
}

// in: bytes of the disk are to be written.
func (b *Blk) in(q request) ([]byte, byte) {
	if q.read != 0 || !mayMove(q.room) {
		return nil, api.BlkIOErr
	}
	data, e := b.disk.Read(q.Sector, q.room)
	return data, endOf(e)
}

// out: bytes to be read come to the disk.
func (b *Blk) out(q request) byte {
	if q.room != 0 || !mayMove(q.read) {
		return api.BlkIOErr
	}
	data, there := q.chain.Gather(b.memory, HeadSize, q.read)
	// Of a chain that no walk along this memory made some may be missing: none come then.
	if !there {
		return api.BlkIOErr
	}
	return endOf(b.disk.Write(q.Sector, data))
}

// flush: what was written to the disk stays.
func (b *Blk) flush(q request) byte {
	if q.read != 0 || q.room != 0 {
		return api.BlkIOErr
	}
	return endOf(b.disk.Flush())
}

// getID: the disk's name is to be written.
func (b *Blk) getID(q request) ([]byte, byte) {
	if q.read != 0 || q.room != NameSize {
		return nil, api.BlkIOErr
	}
	return b.name[:], api.BlkOK
}

// mayMove: may a request be of so many bytes? Whether these are whole sectors the disk says.
func mayMove(n uint64) bool { return n != 0 && n <= mostData }

// endOf: how a request ends, by what the disk says.
func endOf(e api.Errno) byte {
	if e != api.OK {
		return api.BlkIOErr
	}
	return api.BlkOK
}
