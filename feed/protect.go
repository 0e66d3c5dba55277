package feed

import (
	"slices"

	"linkboy/api"
	"linkboy/whole"
)

// melt returns how long a kind of fuse takes to open at a current, and whether it opens at all.
func melt(k *api.FeFuse, current int) (t api.Encl, opens bool) {
	for _, p := range slices.Backward(k.Points) {
		if p.Current <= current {
			return p.Melt, true
		}
	}
	return api.Encl{}, false
}

// protections returns the nodes with a fuse on the path to a node.
func protections(f *api.FeFeeder, node int) (all []int) {
	for at := range path(f, node) {
		if f.Nodes[at].Fuse != none {
			all = append(all, at)
		}
	}
	return all
}

// own returns the last one of the protections on a path, or none.
func own(all []int) int {
	if len(all) == 0 {
		return none
	}
	return all[len(all)-1]
}

// fuse returns the kind of the fuse of a protection.
func (n net) fuse(protection int) *api.FeFuse {
	return &n.feeder.Fuses[n.feeder.Nodes[protection].Fuse]
}

// load returns how much flows through a phase of a protection at most, if there is no fault.
func (n net) load(protection int) int {
	most := 0
	for _, x := range n.flows[protection].phases {
		most = max(most, x.Hi)
	}
	return most
}

// hinders reports whether, at a current of a fault, a protection opens, but perhaps not before another one, which may carry its load as well.
func (n net) hinders(other, protection, current int) bool {
	latest, opens := melt(n.fuse(protection), current)
	soonest, opensToo := melt(n.fuse(other), current+n.load(other))
	return opens && opensToo && latest.Hi >= soonest.Lo
}

// first returns the protection that certainly opens first at a current of a fault at a node, or none.
func (n net) first(node, current int) int {
	all := protections(n.feeder, node)
	for _, p := range all {
		_, opens := melt(n.fuse(p), current)
		isHindered := slices.ContainsFunc(all, func(other int) bool { return other != p && n.hinders(other, p, current) })
		if opens && !isHindered {
			return p
		}
	}
	return none
}

// mayHinder reports whether another protection hinders one at a whole current of a fault that is in an enclosure.
func (n net) mayHinder(other, protection int, x api.Encl) bool {
	// Times change only at the currents of points, so that it is enough to try these, and the least current.
	tried := []int{x.Lo}
	for _, p := range n.fuse(protection).Points {
		tried = append(tried, p.Current)
	}
	for _, p := range n.fuse(other).Points {
		tried = append(tried, p.Current-n.load(other))
	}
	return slices.ContainsFunc(tried, func(current int) bool {
		return whole.IsFrom(current, x.Lo, x.Hi) && n.hinders(other, protection, current)
	})
}
