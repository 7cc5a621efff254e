package disk

import (
	"vireo/api"
	"vireo/word"
)

// Requests: how many there were.
func (d *Disk) Requests() uint64 {
	if d == nil {
		return 0
	}
	return d.requests
}

// Flushes: how often what was written was made to stay.
func (d *Disk) Flushes() uint64 {
	if d == nil {
		return 0
	}
	return d.flushes
}

// Fail: the n-th request from now on fails; 0: none does.
func (d *Disk) Fail(n uint64) {
	if d != nil {
		d.failing = n
	}
}

// Read: bytes of sectors from one on.
func (d *Disk) Read(at, bytes uint64) ([]byte, api.Errno) {
	if e := d.request(); e != api.OK {
		return nil, e
	}
	if e := d.there(at, bytes); e != api.OK {
		return nil, e
	}
	return d.get(at, bytes), api.OK
}

// Write: bytes to sectors from one on: all, or none.
func (d *Disk) Write(at uint64, data []byte) api.Errno {
	if e := d.request(); e != api.OK {
		return e
	}
	if d.locked {
		return api.ErrLocked
	}
	if e := d.there(at, uint64(len(data))); e != api.OK {
		return e
	}
	d.put(at, data)
	return api.OK
}

// Flush: what was written stays.
func (d *Disk) Flush() api.Errno {
	if e := d.request(); e != api.OK {
		return e
	}
	d.flushes++
	return api.OK
}

// request: there is one more of them; ErrFault, if it fails.
func (d *Disk) request() api.Errno {
	if d == nil {
		return api.ErrFault
	}
	d.requests++
	if d.failing == 0 {
		return api.OK
	}
	d.failing--
	if d.failing == 0 {
		return api.ErrFault
	}
	return api.OK
}

// there: the error of a piece that isn't whole sectors, or isn't on the disk.
func (d *Disk) there(at, bytes uint64) api.Errno {
	if !word.Aligned(bytes, api.SectorSize) {
		return api.ErrSize
	}
	if !word.Within(at, bytes/api.SectorSize, 0, d.count) {
		return api.ErrSector
	}
	return api.OK
}
