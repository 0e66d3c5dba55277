package feed

import (
	"linkboy/api"
	"linkboy/whole"
)

// million is how many nanovolts, or micro-ohms, are a millivolt, or an ohm.
const million = 1000000

// flow is what flows in the cable to a node.
type flow struct {
	phases  [api.FePhases]api.Encl
	neutral int // at most
}

// net is a feeder without an error, with what flows to each of its nodes.
type net struct {
	feeder *api.FeFeeder
	flows  []flow
}

func newNet(f *api.FeFeeder) net {
	n := net{feeder: f}
	for node := range f.Nodes {
		phases := currents(f, node)
		n.flows = append(n.flows, flow{phases, neutral(phases)})
	}
	return n
}

// currents returns what flows in the phases of the cable to a node.
func currents(f *api.FeFeeder, node int) (all [api.FePhases]api.Encl) {
	visitBehind(f, node, func(n *api.FeNode) {
		for phase, load := range n.Loads {
			all[phase] = whole.Add(all[phase], load)
		}
	})
	return all
}

// neutral returns what flows in the neutral at most: the length of the sum of the currents, which is greatest where each of them is as little, or as great, as it may be.
func neutral(phases [api.FePhases]api.Encl) int {
	ends := func(x api.Encl) [2]int { return [2]int{x.Lo, x.Hi} }
	square := 0
	for _, a := range ends(phases[0]) {
		for _, b := range ends(phases[1]) {
			for _, c := range ends(phases[2]) {
				square = max(square, a*a+b*b+c*c-a*b-b*c-c*a)
			}
		}
	}
	return whole.Root(square).Hi
}

// drop returns how many millivolts a phase loses on the way to a node at most.
func (n net) drop(node, phase int) int {
	nanovolts := 0
	for at := range path(n.feeder, node) {
		x := &n.flows[at]
		nanovolts += core(n.feeder, at).Hi * (x.phases[phase].Hi + x.neutral)
	}
	return whole.Up(nanovolts, million)
}

// core returns the resistance of a core of the cable to a node.
func core(f *api.FeFeeder, node int) api.Encl {
	n := &f.Nodes[node]
	return whole.Multiple(f.Cables[n.Cable].Core, n.Length)
}

// earth returns the resistance of the earth of the cable to a node.
func earth(f *api.FeFeeder, node int) api.Encl {
	n := &f.Nodes[node]
	return whole.Multiple(f.Cables[n.Cable].Earth, n.Length)
}

// faultCurrent returns the current of a fault at a node, which goes back by the earth, or by the neutral.
func faultCurrent(f *api.FeFeeder, node int, byEarth bool) api.Encl {
	back := core
	if byEarth {
		back = earth
	}
	resistance := f.Source
	for at := range path(f, node) {
		resistance = whole.Add(resistance, whole.Add(core(f, at), back(f, at)))
	}
	return api.Encl{
		Lo: whole.Down(million*f.Volts.Lo, resistance.Hi),
		Hi: whole.Up(million*f.Volts.Hi, resistance.Lo),
	}
}
