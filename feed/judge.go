package feed

import "linkboy/api"

// inspector looks for what is wrong with a feeder.
type inspector struct {
	net
	found []api.FeFault
}

// judge returns what is wrong with a feeder, node by node.
func judge(f *api.FeFeeder) []api.FeFault {
	i := inspector{net: newNet(f)}
	looks := [...]func(node int){i.loads, i.drops, i.bare, i.neutralFault, i.earthFault}
	for node := 1; node < len(f.Nodes); node++ {
		for _, look := range looks {
			look(node)
		}
	}
	return i.found
}

func (i *inspector) add(e api.Errno, node, other int) {
	i.found = append(i.found, api.FeFault{Error: e, Node: node, Other: other})
}

// loads finds phases in which the cable to a node, or its fuse, carries more than it is rated for.
func (i *inspector) loads(node int) {
	n := &i.feeder.Nodes[node]
	rated := i.feeder.Cables[n.Cable].Rated
	if n.Fuse != none {
		rated = min(rated, i.fuse(node).Rated)
	}
	for phase, x := range i.flows[node].phases {
		if x.Hi > rated {
			i.add(api.FeErrLoad, node, phase)
		}
	}
}

// drops finds phases that drop too far.
func (i *inspector) drops(node int) {
	for phase := range api.FePhases {
		if i.drop(node, phase) > i.feeder.Drop {
			i.add(api.FeErrDrop, node, phase)
		}
	}
}

// bare finds a node without protection.
func (i *inspector) bare(node int) {
	if len(protections(i.feeder, node)) == 0 {
		i.add(api.FeErrBare, node, none)
	}
}

func (i *inspector) neutralFault(node int) { i.fault(node, false) }

func (i *inspector) earthFault(node int) { i.fault(node, true) }

// fault finds out whether a fault at a node is cut off in time, and by nothing but its own protection.
func (i *inspector) fault(node int, byEarth bool) {
	all := protections(i.feeder, node)
	if len(all) == 0 {
		return
	}
	current, last := faultCurrent(i.feeder, node, byEarth), own(all)
	if t, opens := melt(i.fuse(last), current.Lo); !opens || t.Hi > i.feeder.Limit {
		i.add(api.FeErrSlow, node, last)
	}
	for _, other := range all {
		if other != last && i.mayHinder(other, last, current) {
			i.add(api.FeErrOther, node, other)
		}
	}
}
