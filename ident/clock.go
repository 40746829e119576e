package ident

import (
	"slices"

	"gesso/api"
)

// moving is a clock that goes on.
type moving struct{ api.Clock }

// give gives the next id.
func (m *moving) give() api.Id {
	m.Time++
	m.Seq++
	return api.Id{Time: m.Time, Site: m.Site, Seq: m.Seq}
}

// see lets it know a time.
func (m *moving) see(time uint64) { m.Time = max(m.Time, time) }

// New is a site's clock.
func New(site int) (api.Clock, api.Errno) {
	if !isSite(site) {
		return api.Clock{}, api.ErrArg
	}
	return api.Clock{Site: site}, api.OK
}

// CheckClock tells whether it is a clock.
func CheckClock(c api.Clock) api.Errno {
	if !isSite(c.Site) || c.Time > api.MaxTime || c.Seq > api.MaxTime {
		return api.ErrClock
	}
	return api.OK
}

// Next is the clock behind giving an id, and that.
func Next(c api.Clock) (api.Clock, api.Id, api.Errno) {
	if e := CheckClock(c); e != api.OK {
		return api.Clock{}, api.Id{}, e
	}
	if c.Time == api.MaxTime || c.Seq == api.MaxTime {
		return api.Clock{}, api.Id{}, api.ErrLate
	}
	m := moving{c}
	i := m.give()
	return m.Clock, i, api.OK
}

// See is the clock behind seeing times.
func See(c api.Clock, times ...uint64) (api.Clock, api.Errno) {
	if e := CheckClock(c); e != api.OK {
		return api.Clock{}, e
	}
	if slices.ContainsFunc(times, func(t uint64) bool { return t > api.MaxTime }) {
		return api.Clock{}, api.ErrArg
	}
	m := moving{c}
	see := m.see
	for _, t := range times {
		see(t)
	}
	return m.Clock, api.OK
}
