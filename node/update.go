package node

import (
	"slices"

	"linkboy/api"
	"linkboy/whole"
)

// isReport reports whether the numbers of a report are in their ranges.
func isReport(r api.NdReport) bool {
	return whole.AreFrom([]int{r.Count, r.Level, r.Version}, 0, api.MaxNdNumber)
}

// rollError returns the first error of an update of so many nodes.
func rollError(r *api.NdRoll, nodes int) api.Errno {
	isEmpty := func(wave []int) bool { return len(wave) == 0 }
	isNone := func(node int) bool { return node < 0 || node >= nodes }
	switch {
	case len(r.Waves) > api.MaxNdWaves || nodes > api.MaxNdNodes:
		return api.ErrLong
	case len(r.Waves) == 0 || slices.ContainsFunc(r.Waves, isEmpty):
		return api.ErrNone
	case slices.ContainsFunc(r.Waves, func(wave []int) bool { return slices.ContainsFunc(wave, isNone) }):
		return api.ErrNone
	case hasTwice(r.Waves, nodes):
		return api.ErrTwice
	case !isVersion(r.Old) || !isVersion(r.New):
		return api.ErrRange
	case r.Old == r.New:
		return api.ErrArg
	}
	return api.OK
}

// hasTwice reports whether one of so many nodes is twice in waves.
func hasTwice(waves [][]int, nodes int) bool {
	isThere := make([]bool, nodes)
	for _, wave := range waves {
		for _, node := range wave {
			if isThere[node] {
				return true
			}
			isThere[node] = true
		}
	}
	return false
}

// update is an update at work: a copy of its state, which a step changes.
type update struct {
	api.NdRolled
	roll *api.NdRoll
	view []api.NdReport
}

// step returns what nodes are told in a step.
func (u *update) step() []api.NdOrder {
	u.Failed = u.Failed || u.fails()
	if u.Failed {
		return u.back()
	}
	return u.onward()
}

// fails reports whether a node that was told to take the new version does not run well with it.
func (u *update) fails() bool {
	for node, isSent := range u.Sent {
		if isSent && u.isNew(node) && !u.runsWell(node) {
			return true
		}
	}
	return false
}

// back tells the nodes that were told to take the new version to take the old one.
func (u *update) back() (orders []api.NdOrder) {
	for node, isSent := range u.Sent {
		if isSent && u.view[node].Version != u.roll.Old {
			orders = append(orders, api.NdOrder{Node: node, Version: u.roll.Old})
		}
	}
	return orders
}

// onward tells nodes of the wave to take the new version.
func (u *update) onward() (orders []api.NdOrder) {
	for _, node := range u.wave() {
		if !u.isNew(node) {
			u.Sent[node] = true
			orders = append(orders, api.NdOrder{Node: node, Version: u.roll.New})
		}
	}
	return orders
}

// wave returns the first wave with a node that does not run well; it is empty, if there is none.
func (u *update) wave() (first []int) {
search:
	for _, wave := range u.roll.Waves {
		for _, node := range wave {
			if !u.runsWell(node) {
				first = wave
				break search
			}
		}
	}
	return first
}

func (u *update) isNew(node int) bool { return u.view[node].Version == u.roll.New }

func (u *update) runsWell(node int) bool { return u.isNew(node) && u.view[node].Good }
