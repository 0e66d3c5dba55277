package feed

import (
	"linkboy/api"
	"linkboy/parts"
	"linkboy/whole"
)

// Parts of a feeder in which Check finds an error.
const (
	partAll    = 0
	partCables = 1
	partFuses  = 2
	partNodes  = 3
)

const maxSource = 1000000000 // micro-ohms

// Check checks a feeder.
func Check(f api.FeFeeder) (part, at int, e api.Errno) {
	if e := feederError(&f); e != api.OK {
		return partAll, 0, e
	}
	if at, e := parts.FirstNamedError(f.Cables, cableName, cableError); e != api.OK {
		return partCables, at, e
	}
	if at, e := parts.FirstNamedError(f.Fuses, fuseName, fuseError); e != api.OK {
		return partFuses, at, e
	}
	placeError := func(before []api.FeNode, n *api.FeNode) api.Errno {
		if len(before) == 0 {
			return sourceError(n)
		}
		return branchError(&f, len(before), n)
	}
	if at, e := parts.FirstNamedError(f.Nodes, nodeName, placeError); e != api.OK {
		return partNodes, at, e
	}
	return 0, 0, api.OK
}

// feederError returns the first error of a feeder that is in none of its lists.
func feederError(f *api.FeFeeder) api.Errno {
	switch {
	case len(f.Cables) > api.MaxCables || len(f.Fuses) > api.MaxFuses || len(f.Nodes) > api.MaxFeNodes:
		return api.ErrLong
	case len(f.Nodes) == 0:
		return api.ErrNone
	case !whole.IsWithin(f.Volts, 1, api.MaxVolts) || !whole.IsWithin(f.Source, 1, maxSource):
		return api.ErrRange
	case !whole.IsFrom(f.Drop, 0, api.MaxVolts) || !isTime(f.Limit):
		return api.ErrRange
	}
	return api.OK
}

func cableName(c *api.FeCable) string { return c.Name }

func fuseName(k *api.FeFuse) string { return k.Name }

func nodeName(n *api.FeNode) string { return n.Name }

// cableError returns the error of the numbers of a kind of cable.
func cableError(_ []api.FeCable, c *api.FeCable) api.Errno {
	if !whole.IsWithin(c.Core, 1, api.MaxCore) || !whole.IsWithin(c.Earth, 1, api.MaxCore) || !isCurrent(c.Rated) {
		return api.ErrRange
	}
	return api.OK
}

// fuseError returns the first error of a kind of fuse, but for its name.
func fuseError(_ []api.FeFuse, k *api.FeFuse) api.Errno {
	switch {
	case !whole.IsFrom(len(k.Points), 1, api.MaxPoints):
		return api.ErrLong
	case !isCurrent(k.Rated) || !arePoints(k.Points):
		return api.ErrRange
	case !isCurve(k.Points):
		return api.ErrArg
	}
	return api.OK
}

// arePoints reports whether the numbers of points are in their ranges.
func arePoints(points []api.FePoint) bool {
	for _, p := range points {
		if !isCurrent(p.Current) || !whole.IsWithin(p.Melt, 1, api.MaxMelt) {
			return false
		}
	}
	return true
}

// isCurve reports whether a fuse with these points opens no later at a greater current.
func isCurve(points []api.FePoint) bool {
	for i := 1; i < len(points); i++ {
		last, p := points[i-1], points[i]
		if p.Current <= last.Current || p.Melt.Lo > last.Melt.Lo || p.Melt.Hi > last.Melt.Hi {
			return false
		}
	}
	return true
}

// sourceError returns the error of the first node, but for its name.
func sourceError(n *api.FeNode) api.Errno {
	if *n != (api.FeNode{Name: n.Name, Parent: none, Cable: none, Fuse: none}) {
		return api.ErrArg
	}
	return api.OK
}

// branchError returns the first error of a node before which there are others, but for its name.
func branchError(f *api.FeFeeder, before int, n *api.FeNode) api.Errno {
	switch {
	case !whole.IsIndex(n.Parent, before) || !whole.IsIndex(n.Cable, len(f.Cables)):
		return api.ErrNone
	case n.Fuse != none && !whole.IsIndex(n.Fuse, len(f.Fuses)):
		return api.ErrNone
	case !whole.IsFrom(n.Length, 1, api.MaxCable):
		return api.ErrRange
	}
	for _, load := range n.Loads {
		if !whole.IsWithin(load, 0, api.MaxLoad) {
			return api.ErrRange
		}
	}
	return api.OK
}

func isCurrent(n int) bool { return whole.IsFrom(n, 1, api.MaxCurrent) }

func isTime(n int) bool { return whole.IsFrom(n, 1, api.MaxMelt) }

// errorOf returns the error of a feeder, or of an index of a list of its, which has so many elements.
func errorOf(f api.FeFeeder, index, count int) api.Errno {
	if _, _, e := Check(f); e != api.OK {
		return e
	}
	if !whole.IsIndex(index, count) {
		return api.ErrNone
	}
	return api.OK
}

// nodeError returns the error of a feeder, or of the index of a node.
func nodeError(f api.FeFeeder, node int) api.Errno { return errorOf(f, node, len(f.Nodes)) }

// cableToError returns the error of a feeder, or of the index of a node to which there is no cable.
func cableToError(f api.FeFeeder, node int) api.Errno {
	if e := nodeError(f, node); e != api.OK {
		return e
	}
	if node == 0 {
		return api.ErrArg
	}
	return api.OK
}

// openError returns the first error of a feeder and of phases that are open.
func openError(f api.FeFeeder, open []api.FeOpen) api.Errno {
	if _, _, e := Check(f); e != api.OK {
		return e
	}
	if len(open) > api.FePhases*api.MaxFeNodes {
		return api.ErrLong
	}
	for _, o := range open {
		if !whole.IsIndex(o.Node, len(f.Nodes)) || !isPhase(o.Phase) {
			return api.ErrNone
		}
	}
	return api.OK
}
