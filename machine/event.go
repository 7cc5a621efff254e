package machine

import "vireo/api"

// Check: may an event be?
func Check(e api.Event) api.Errno {
	switch e.Kind {
	case api.EvStep:
		if e.Arg > api.MaxEvents {
			return api.ErrRange
		}
		return api.OK
	case api.EvInput:
		if len(e.Data) > api.MaxText {
			return api.ErrLong
		}
		return api.OK
	case api.EvTick, api.EvFault:
		return api.OK
	}
	return api.ErrScript
}

// Do: an event.
func (m *Machine) Do(e api.Event) api.Errno {
	if no := Check(e); no != api.OK {
		return no
	}
	if m != nil {
		m.happens(e)
	}
	return api.OK
}

// Run: events, one behind the other, up to the first one that may not be; how many were done.
func (m *Machine) Run(list ...api.Event) (int, api.Errno) {
	for done, e := range list {
		if no := m.Do(e); no != api.OK {
			return done, no
		}
	}
	return len(list), api.OK
}

// happens: an event that may be comes to the part that it is for.
func (m *Machine) happens(e api.Event) {
	switch e.Kind {
	case api.EvStep:
		for range e.Arg {
			m.Step()
		}
	case api.EvTick:
		m.Clint.Tick(e.Arg)
	case api.EvInput:
		m.Type(e.Data...)
	case api.EvFault:
		m.Disk().Fail(e.Arg)
	}
}
