package feed

import (
	"iter"
	"slices"

	"linkboy/api"
)

// path yields the nodes on the way to a node: from the child of the source on, to this node.
func path(f *api.FeFeeder, node int) iter.Seq[int] {
	return func(yield func(int) bool) {
		var back []int
		for at := node; at > 0; at = f.Nodes[at].Parent {
			back = append(back, at)
		}
		for _, at := range slices.Backward(back) {
			if !yield(at) {
				return
			}
		}
	}
}

// visitBehind calls visit for each node that is behind a node, and for this one first.
func visitBehind(f *api.FeFeeder, node int, visit func(n *api.FeNode)) {
	var walk func(at int)
	walk = func(at int) {
		visit(&f.Nodes[at])
		for child := at + 1; child < len(f.Nodes); child++ {
			if f.Nodes[child].Parent == at {
				walk(child)
			}
		}
	}
	walk(node)
}

// dark returns the phases of nodes without supply, in order.
func dark(f *api.FeFeeder, open []api.FeOpen) (all []api.FeOpen) {
	isOpen := map[api.FeOpen]bool{}
	for _, o := range open {
		isOpen[o] = true
	}
	hasSupply := func(node, phase int) bool {
		if isOpen[api.FeOpen{Phase: phase}] { // at the source, which is on no path
			return false
		}
		for at := range path(f, node) {
			if isOpen[api.FeOpen{Node: at, Phase: phase}] {
				return false
			}
		}
		return true
	}
	for node := range f.Nodes {
		for phase := range api.FePhases {
			if !hasSupply(node, phase) {
				all = append(all, api.FeOpen{Node: node, Phase: phase})
			}
		}
	}
	return all
}
