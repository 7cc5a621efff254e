package disk

import "vireo/api"

type sector [api.SectorSize]byte

// get: a copy of bytes from a sector on, which are all there.
func (d *Disk) get(at, bytes uint64) []byte {
	out := make([]byte, bytes)
	for rest := out; len(rest) > 0; at++ {
		s := d.sectors[at]
		rest = rest[copy(rest, s[:]):]
	}
	return out
}

// put: sectors from one on, which are all there, hold these bytes, and the last one 0 behind them.
func (d *Disk) put(at uint64, data []byte) {
	for ; len(data) > 0; at++ {
		var s sector
		data = data[copy(s[:], data):]
		d.keep(at, s)
	}
}

// keep: a sector holds this.
func (d *Disk) keep(n uint64, s sector) {
	if s == (sector{}) {
		delete(d.sectors, n)
		return
	}
	d.sectors[n] = s
}
