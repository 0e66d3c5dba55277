package node

import (
	"slices"

	"linkboy/api"
)

// history is the events of a node that were not refused, from the first one on. What a node must be like is looked up in it, while the package goes on from state to state.
type history []api.NdEvent

// last returns the last message of a kind; it is zero, if there was none.
func (h history) last(kind int) api.NdMessage {
	for _, v := range slices.Backward(h) {
		if v.Kind == api.NdTake && v.Message.Kind == kind {
			return v.Message
		}
	}
	return api.NdMessage{}
}

// powered returns the events since the power was cut.
func (h history) powered() history {
	for i, v := range slices.Backward(h) {
		if v.Kind == api.NdCut {
			return h[i+1:]
		}
	}
	return h
}

// now returns the time, if it is known: what was told, and the seconds since then.
func (h history) now() (time int, isKnown bool) {
	passed := 0
	for _, v := range slices.Backward(h.powered()) {
		if v.Kind == api.NdTake && v.Message.Kind == api.NdMsgTime {
			return v.Message.Time + passed, true
		}
		if v.Kind == api.NdTick {
			passed += v.Seconds
		}
	}
	return 0, false
}

// cell returns what the cell says: whether it is broken, and what the last light said that said anything.
func (h history) cell(c api.NdSet) (isBroken, isDark bool) {
	isBroken, isLast := true, true
	for _, v := range slices.Backward(h.powered()) {
		if v.Kind != api.NdTick {
			continue
		}
		if isLast {
			isBroken, isLast = v.Light < 0, false
		}
		if v.Light >= 0 && (v.Light <= c.CellOn || v.Light >= c.CellOff) {
			return isBroken, v.Light <= c.CellOn
		}
	}
	return isBroken, false
}

// state returns the state that a node must have.
func (h history) state(c api.NdSet) api.NdState {
	s := api.NdState{
		Plan: h.last(api.NdMsgPlan).Plan, Dim: h.last(api.NdMsgDim).Hold, Force: h.last(api.NdMsgForce).Hold,
		Version: h.last(api.NdMsgUpdate).Version, Count: len(h),
	}
	for kind := range s.Numbers {
		s.Numbers[kind] = h.last(kind).Number
	}
	s.Time, s.Clock = h.now()
	s.Broken, s.Dark = h.cell(c)
	s.Level = wantLevel(c, s)
	return s
}

// wantNight returns the night of a day.
func wantNight(c api.NdSet, p api.NdPlan, day int) api.SnNight {
	for i, n := range p.Nights {
		if p.First+i == day {
			return n
		}
	}
	return c.Default
}

// spans yields when the nights of some days are, in seconds since day 0 began.
func spans(today, days int, nightOf func(day int) api.SnNight) func(yield func(from, until int) bool) {
	return func(yield func(from, until int) bool) {
		for day := max(0, today-days+1); day <= today; day++ {
			n := nightOf(day)
			if !yield(day*86400+n.On, day*86400+n.Off) {
				return
			}
		}
	}
}

// isInNight reports whether a time is in the night of a day, of which five are looked at.
func isInNight(time int, nightOf func(day int) api.SnNight) bool {
	for from, until := range spans(time/86400, 5, nightOf) {
		if from <= time && time < until {
			return true
		}
	}
	return false
}

// wantLevel returns the level that a state asks for.
func wantLevel(c api.NdSet, s api.NdState) int {
	isNight := !s.Broken && s.Dark || s.Broken && !s.Clock
	if s.Clock && isInNight(s.Time, func(day int) api.SnNight { return wantNight(c, s.Plan, day) }) {
		isNight = true
	}
	isActive := func(h api.NdHold) bool { return s.Clock && s.Time >= h.From && s.Time < h.Until }
	if !isNight {
		if isActive(s.Force) {
			return s.Force.Level
		}
		return 0
	}
	if isActive(s.Force) || !isActive(s.Dim) {
		return 1000
	}
	if s.Dim.Level < c.Floor {
		return c.Floor
	}
	return s.Dim.Level
}

// wantRefusal returns the error with which an event is refused after some others.
func (h history) wantRefusal(c api.NdSet, v api.NdEvent) api.Errno {
	time, isKnown := h.now()
	switch {
	case v.Kind == api.NdTake:
		return h.wantMessageError(c, v.Message)
	case v.Kind == api.NdCut:
		return api.OK
	case v.Kind != api.NdTick:
		return api.ErrArg
	case v.Seconds < 0 || v.Seconds > 86400 || v.Light < -1 || v.Light > 1000000000 || isKnown && v.Seconds > 4000000000-time:
		return api.ErrRange
	}
	return api.OK
}

func (h history) wantMessageError(c api.NdSet, m api.NdMessage) api.Errno {
	isPlan, isHold, isUpdate := m.Kind == 2, m.Kind == 3 || m.Kind == 4, m.Kind == 5
	hold, nights := m.Hold, len(m.Plan.Nights)
	switch {
	case m.Kind < 1 || m.Kind > 5 || m.Kind != 1 && m.Time != 0 || !isUpdate && m.Version != 0:
		return api.ErrArg
	case !isPlan && (m.Plan.First != 0 || nights != 0) || !isHold && hold != api.NdHold{}:
		return api.ErrArg
	case m.Number < 1 || m.Number > 1000000000:
		return api.ErrRange
	case m.Number <= h.last(m.Kind).Number:
		return api.NdErrOld
	case m.Time < 0 || m.Time > 4000000000 || isUpdate && (m.Version < 1 || m.Version > 1000000) || m.Plan.First < 0 || m.Plan.First > 40000:
		return api.ErrRange
	case hold.Level < 0 || hold.Level > 1000 || hold.From < 0 || hold.From > 4000000000 || hold.Until < 0 || hold.Until > 4000000000:
		return api.ErrRange
	case isHold && (hold.Until <= hold.From || hold.Until-hold.From > c.Hold):
		return api.ErrArg
	case nights > 40:
		return api.ErrLong
	}
	for _, n := range m.Plan.Nights {
		if n.On < 0 || n.On > 86400 || n.Off <= n.On || n.Off > n.On+86400 {
			return api.ErrArg
		}
		if n.On > c.Core.On || n.Off < c.Core.Off {
			return api.NdErrCore
		}
	}
	return api.OK
}

// wantStep returns the state after a step, and what is told: each node of a wave, and each index, is looked at by itself.
func wantStep(r api.NdRoll, s api.NdRolled, view []api.NdReport) (after api.NdRolled, orders []api.NdOrder) {
	after = api.NdRolled{Sent: slices.Clone(s.Sent), Failed: s.Failed}
	for node, isSent := range s.Sent {
		if isSent && view[node].Version == r.New && !view[node].Good {
			after.Failed = true
		}
	}
	if after.Failed {
		for node := range view {
			if s.Sent[node] && view[node].Version != r.Old {
				orders = append(orders, api.NdOrder{Node: node, Version: r.Old})
			}
		}
		return after, orders
	}
	for i, wave := range r.Waves {
		for _, node := range wave {
			if view[node].Version != r.New && doAllRunWell(r.New, slices.Concat(r.Waves[:i]...), view) {
				after.Sent[node] = true
				orders = append(orders, api.NdOrder{Node: node, Version: r.New})
			}
		}
	}
	return after, orders
}

// doAllRunWell reports whether some nodes run well with a version.
func doAllRunWell(version int, nodes []int, view []api.NdReport) bool {
	return !slices.ContainsFunc(nodes, func(node int) bool { return view[node].Version != version || !view[node].Good })
}
