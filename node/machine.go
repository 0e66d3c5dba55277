package node

import (
	"slices"

	"linkboy/api"
	"linkboy/whole"
)

// noLight is the light that tells of a broken cell.
const noLight = -1

// machine is a node at work: a copy of a state, to which events happen.
type machine struct {
	api.NdState
	set *api.NdSet
}

// state returns the state of a machine. Its plan may be that of an argument, so it is copied.
func (m *machine) state() api.NdState {
	s := m.NdState
	s.Plan.Nights = slices.Clone(s.Plan.Nights)
	return s
}

// do does an event, or returns the error with which it is refused.
func (m *machine) do(v *api.NdEvent) api.Errno {
	switch v.Kind {
	case api.NdTake:
		return m.take(v.Message)
	case api.NdTick:
		return m.tick(v.Seconds, v.Light)
	case api.NdCut:
		return m.cut()
	}
	return api.ErrArg
}

func (m *machine) take(one api.NdMessage) api.Errno {
	what, isMessage := said(one)
	switch {
	case !isMessage:
		return api.ErrArg
	case !whole.IsFrom(one.Number, 1, api.MaxNdNumber):
		return api.ErrRange
	case one.Number <= m.Numbers[one.Kind]:
		return api.NdErrOld
	}
	if e := what.errorFor(m.set); e != api.OK {
		return e
	}
	return m.happen(func() {
		m.Numbers[one.Kind] = one.Number
		m.put(what)
	})
}

func (m *machine) tick(seconds, light int) api.Errno {
	switch {
	case !whole.IsFrom(seconds, 0, api.SnDays) || !whole.IsFrom(light, noLight, api.MaxLight):
		return api.ErrRange
	case m.Clock && !isTime(m.Time+seconds):
		return api.ErrRange
	}
	return m.happen(func() {
		if m.Clock {
			m.Time += seconds
		}
		m.see(light)
	})
}

func (m *machine) cut() api.Errno {
	return m.happen(func() {
		m.Clock, m.Time = false, 0
		m.Broken, m.Dark = true, false
	})
}

// happen counts an event, lets it change the state, and finds the level anew; or it returns that no more events can be counted.
func (m *machine) happen(change func()) api.Errno {
	if m.Count >= api.MaxNdNumber {
		return api.ErrLong
	}
	m.Count++
	change()
	m.Level = m.level()
	return api.OK
}

// put puts what a message says into the state.
func (m *machine) put(what message) {
	switch what := what.(type) {
	case timeMessage:
		m.Clock, m.Time = true, int(what)
	case planMessage:
		m.Plan = api.NdPlan(what)
	case dimMessage:
		m.Dim = api.NdHold(what)
	case forceMessage:
		m.Force = api.NdHold(what)
	case updateMessage:
		m.Version = int(what)
	}
}

// see lets the cell see a light. A light between that of day and that of night leaves what it says.
func (m *machine) see(light int) {
	m.Broken = light == noLight
	if m.Broken {
		return
	}
	switch {
	case light <= m.set.CellOn:
		m.Dark = true
	case light >= m.set.CellOff:
		m.Dark = false
	}
}

// level returns the level that the rest of the state asks for.
func (m *machine) level() int {
	isNight := m.isClockNight() || m.isCellNight() || m.isBlind()
	switch {
	case isNight && m.isActive(m.Force):
		return api.All
	case isNight && m.isActive(m.Dim):
		return max(m.set.Floor, m.Dim.Level)
	case isNight:
		return api.All
	case m.isActive(m.Force):
		return m.Force.Level
	}
	return 0
}

// isClockNight reports whether it is night by the clock: in the night that began today, or the day before.
func (m *machine) isClockNight() bool {
	if !m.Clock {
		return false
	}
	isIn := func(day int) bool {
		n, now := m.night(day), m.Time-day*api.SnDays
		return n.On <= now && now < n.Off
	}
	today := m.Time / api.SnDays
	return isIn(today) || today > 0 && isIn(today-1)
}

func (m *machine) isCellNight() bool { return !m.Broken && m.Dark }

func (m *machine) isBlind() bool { return !m.Clock && m.Broken }

func (m *machine) isActive(h api.NdHold) bool {
	return m.Clock && h.From <= m.Time && m.Time < h.Until
}

// night returns the night of a day.
func (m *machine) night(day int) api.SnNight {
	if at := day - m.Plan.First; whole.IsIndex(at, len(m.Plan.Nights)) {
		return m.Plan.Nights[at]
	}
	return m.set.Default
}
