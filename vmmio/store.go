package vmmio

import (
	"vireo/api"
	"vireo/ram"
	"vireo/ring"
)

// Store: n bytes at a place; what the device is asked for, and of which queue; false: there may be no such access.
func (r *Regs) Store(m *ram.RAM, at uint64, n int, w uint64) (int, int, bool) {
	if r == nil || !allowed(at, n) {
		return Nothing, 0, false
	}
	v := uint32(w)
	switch at {
	case Status:
		return r.setStatus(v), 0, true
	case QueueNotify:
		if r.Live() && r.queueOf(uint64(v)) != nil {
			return Notify, int(v), true
		}
	default:
		r.write(m, at, v)
	}
	return Nothing, 0, true
}

// setStatus: what the driver has come to, and what that asks for.
func (r *Regs) setStatus(v uint32) int {
	if v == 0 {
		r.Reset()
		return Restart
	}
	r.Bits |= v & (api.Acknowledge | api.Driver | api.Failed)
	if v&api.FeaturesOK != 0 && r.agrees() {
		r.Bits |= api.FeaturesOK
	}
	// FeaturesOK comes first: one write may set both.
	if r.shows(api.FeaturesOK) {
		r.Bits |= v & api.DriverOK
	}
	return Nothing
}

// agrees: may the features that the driver chose be?
func (r *Regs) agrees() bool { return r.Agreed&^r.Offered == 0 && r.Has(api.FeatVersion1) }

// write: v is put into a register that asks for nothing; elsewhere nothing changes.
func (r *Regs) write(m *ram.RAM, at uint64, v uint32) {
	switch at {
	case DevSelect:
		r.DevSel = v
	case DrvSelect:
		r.DrvSel = v
	case DrvFeatures:
		if !r.shows(api.FeaturesOK) {
			r.Agreed = withHalf(r.Agreed, r.DrvSel, v)
		}
	case QueueSelect:
		r.QueueSel = v
	case QueueReady:
		r.setReady(m, v&1 == 1)
	case IntAck:
		r.Pending &^= v
	default:
		r.place(at, v)
	}
}

// setReady: the selected queue is to be used from now on, or no more.
func (r *Regs) setReady(m *ram.RAM, ready bool) {
	q := r.selected()
	if q == nil {
		return
	}
	if !ready {
		l := q.Layout
		q.Reset()
		q.Layout = l
		return
	}
	if q.Ready || !r.shows(api.FeaturesOK) || ring.Check(m, q.Layout) != api.OK {
		return
	}
	q.Ready = true
	q.EventIdx = r.Has(api.FeatEventIdx)
	q.Indirect = r.Has(api.FeatIndirect)
}

// place: v is a part of where the selected queue lies, which stays as it is while the queue is Ready.
func (r *Regs) place(at uint64, v uint32) {
	q := r.selected()
	if q == nil || q.Ready {
		return
	}
	l := &q.Layout
	switch at {
	case QueueSize:
		l.Size = int(v)
	case DescLow:
		l.Desc = withHalf(l.Desc, 0, v)
	case DescHigh:
		l.Desc = withHalf(l.Desc, 1, v)
	case AvailLow:
		l.Avail = withHalf(l.Avail, 0, v)
	case AvailHigh:
		l.Avail = withHalf(l.Avail, 1, v)
	case UsedLow:
		l.Used = withHalf(l.Used, 0, v)
	case UsedHigh:
		l.Used = withHalf(l.Used, 1, v)
	}
}
