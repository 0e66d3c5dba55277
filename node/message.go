package node

import "linkboy/api"

// message is what a message of one kind says.
type message interface {
	// errorFor returns the first error of the message for nodes with a set-up.
	errorFor(c *api.NdSet) api.Errno
}

// Messages of all kinds.
type (
	timeMessage   int
	planMessage   api.NdPlan
	dimMessage    api.NdHold
	forceMessage  api.NdHold
	updateMessage int
)

func (t timeMessage) errorFor(*api.NdSet) api.Errno { return rangeError(isTime(int(t))) }

func (p planMessage) errorFor(c *api.NdSet) api.Errno { return planError(c, api.NdPlan(p)) }

func (h dimMessage) errorFor(c *api.NdSet) api.Errno { return holdError(c, api.NdHold(h)) }

func (h forceMessage) errorFor(c *api.NdSet) api.Errno { return holdError(c, api.NdHold(h)) }

func (v updateMessage) errorFor(*api.NdSet) api.Errno { return rangeError(isVersion(int(v))) }

func rangeError(isInRange bool) api.Errno {
	if !isInRange {
		return api.ErrRange
	}
	return api.OK
}

// said returns what a message says, or reports that there is no such kind, or that it has a field that its kind does not have.
func said(m api.NdMessage) (what message, isMessage bool) {
	rest := m // all but the field of the kind
	switch m.Kind {
	case api.NdMsgTime:
		what, rest.Time = timeMessage(m.Time), 0
	case api.NdMsgPlan:
		what, rest.Plan = planMessage(m.Plan), api.NdPlan{}
	case api.NdMsgDim:
		what, rest.Hold = dimMessage(m.Hold), api.NdHold{}
	case api.NdMsgForce:
		what, rest.Hold = forceMessage(m.Hold), api.NdHold{}
	case api.NdMsgUpdate:
		what, rest.Version = updateMessage(m.Version), 0
	default:
		return nil, false
	}
	return what, saysNothing(&rest)
}

func saysNothing(m *api.NdMessage) bool {
	return m.Time == 0 && m.Plan.First == 0 && len(m.Plan.Nights) == 0 && m.Hold == (api.NdHold{}) && m.Version == 0
}
