package node

import (
	"linkboy/api"
	"linkboy/parts"
	"linkboy/whole"
)

// Check returns the first error of a set-up.
func Check(c api.NdSet) api.Errno {
	switch {
	case !whole.IsFrom(c.Floor, 1, api.All) || !whole.IsFrom(c.Hold, 1, api.SnDays):
		return api.ErrRange
	case !whole.IsFrom(c.CellOn, 0, api.MaxLight) || !whole.IsFrom(c.CellOff, 0, api.MaxLight):
		return api.ErrRange
	case !isNight(c.Core) || nightError(&c, c.Default) != api.OK || c.CellOn >= c.CellOff:
		return api.ErrArg
	}
	return api.OK
}

// CheckState returns the error of a set-up, or of a state.
func CheckState(c api.NdSet, s api.NdState) api.Errno {
	if e := Check(c); e != api.OK {
		return e
	}
	if !isState(&c, &s) {
		return api.ErrForm
	}
	return api.OK
}

func isNight(n api.SnNight) bool {
	return whole.IsFrom(n.On, 0, api.SnDays) && whole.IsFrom(n.Off, n.On+1, n.On+api.SnDays)
}

// nightError returns the first error of a night that must have all of the core.
func nightError(c *api.NdSet, n api.SnNight) api.Errno {
	switch {
	case !isNight(n):
		return api.ErrArg
	case n.On > c.Core.On || n.Off < c.Core.Off:
		return api.NdErrCore
	}
	return api.OK
}

// planError returns the first error of a plan.
func planError(c *api.NdSet, p api.NdPlan) api.Errno {
	switch {
	case !whole.IsFrom(p.First, 0, api.MaxSnDay):
		return api.ErrRange
	case len(p.Nights) > api.MaxNdNights:
		return api.ErrLong
	}
	_, e := parts.FirstError(p.Nights, func(_ []api.SnNight, n *api.SnNight) api.Errno { return nightError(c, *n) })
	return e
}

// holdError returns the first error of a hold.
func holdError(c *api.NdSet, h api.NdHold) api.Errno {
	switch {
	case !whole.IsFrom(h.Level, 0, api.All) || !isTime(h.From) || !isTime(h.Until):
		return api.ErrRange
	case !whole.IsFrom(h.Until, h.From+1, h.From+c.Hold):
		return api.ErrArg
	}
	return api.OK
}

// isState reports whether a state is one of a set-up.
func isState(c *api.NdSet, s *api.NdState) bool {
	return s.Numbers[0] == 0 && whole.AreFrom(s.Numbers[:], 0, api.MaxNdNumber) &&
		isTime(s.Time) && (s.Clock || s.Time == 0) &&
		planError(c, s.Plan) == api.OK && isHoldOrNone(c, s.Dim) && isHoldOrNone(c, s.Force) &&
		whole.IsFrom(s.Version, 0, api.MaxNdVersion) && whole.IsFrom(s.Level, 0, api.All) && whole.IsFrom(s.Count, 0, api.MaxNdNumber)
}

func isHoldOrNone(c *api.NdSet, h api.NdHold) bool {
	return h == (api.NdHold{}) || holdError(c, h) == api.OK
}

func isTime(n int) bool { return whole.IsFrom(n, 0, api.MaxNdTime) }

func isVersion(n int) bool { return whole.IsFrom(n, 1, api.MaxNdVersion) }
