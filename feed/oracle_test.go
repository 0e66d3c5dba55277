package feed

import (
	"math/big"
	"slices"

	"linkboy/api"
)

// What follows computes as the document says, in its order, with numbers of any size, and tries every current.

func wantPath(f api.FeFeeder, node int) []int {
	if node == 0 {
		return nil
	}
	return append(wantPath(f, f.Nodes[node].Parent), node)
}

func isBehind(f api.FeFeeder, at, node int) bool {
	return node == 0 || slices.Contains(wantPath(f, at), node)
}

func wantCurrents(f api.FeFeeder, node int) (all [3]api.Encl) {
	for at, n := range f.Nodes {
		for phase := range 3 {
			if isBehind(f, at, node) {
				all[phase].Lo += n.Loads[phase].Lo
				all[phase].Hi += n.Loads[phase].Hi
			}
		}
	}
	return all
}

func number(n int) *big.Int { return big.NewInt(int64(n)) }

// rootUp returns the square root of a number, rounded up.
func rootUp(n int) int {
	root := int(new(big.Int).Sqrt(number(n)).Int64())
	if root*root < n {
		root++
	}
	return root
}

func wantNeutral(f api.FeFeeder, node int) (most int) {
	x := wantCurrents(f, node)
	for choice := range 8 {
		var ends [3]int
		for phase := range 3 {
			ends[phase] = x[phase].Lo
			if choice>>phase&1 == 1 {
				ends[phase] = x[phase].Hi
			}
		}
		a, b, c := ends[0]-ends[1], ends[1]-ends[2], ends[2]-ends[0]
		most = max(most, rootUp((a*a+b*b+c*c)/2))
	}
	return most
}

func wantDrop(f api.FeFeeder, node, phase int) int {
	sum := new(big.Int)
	for _, at := range wantPath(f, node) {
		n := f.Nodes[at]
		current := wantCurrents(f, at)[phase].Hi + wantNeutral(f, at)
		part := number(n.Length * f.Cables[n.Cable].Core.Hi)
		sum.Add(sum, part.Mul(part, number(current)))
	}
	sum.Add(sum, number(999999)).Div(sum, number(1000000))
	return int(sum.Int64())
}

func wantFault(f api.FeFeeder, node int, earth bool) api.Encl {
	lo, hi := f.Source.Lo, f.Source.Hi
	for _, at := range wantPath(f, node) {
		n := f.Nodes[at]
		c := f.Cables[n.Cable]
		back := c.Core
		if earth {
			back = c.Earth
		}
		lo += (c.Core.Lo + back.Lo) * n.Length
		hi += (c.Core.Hi + back.Hi) * n.Length
	}
	least := number(1000000 * f.Volts.Lo)
	most := number(1000000*f.Volts.Hi + lo - 1)
	return api.Encl{Lo: int(least.Div(least, number(hi)).Int64()), Hi: int(most.Div(most, number(lo)).Int64())}
}

func wantMelt(f api.FeFeeder, fuse, current int) (t api.Encl, opens bool) {
	for _, p := range f.Fuses[fuse].Points {
		if current >= p.Current {
			t, opens = p.Melt, true
		}
	}
	return t, opens
}

func wantProtections(f api.FeFeeder, node int) (all []int) {
	for _, at := range wantPath(f, node) {
		if f.Nodes[at].Fuse >= 0 {
			all = append(all, at)
		}
	}
	return all
}

func wantOwn(f api.FeFeeder, node int) int {
	all := wantProtections(f, node)
	if len(all) == 0 {
		return -1
	}
	return all[len(all)-1]
}

// greatest returns the greatest current in a protection, for a current of a fault.
func greatest(f api.FeFeeder, protection, current int) int {
	x := wantCurrents(f, protection)
	return current + max(x[0].Hi, x[1].Hi, x[2].Hi)
}

func isFirst(f api.FeFeeder, node, protection, current int) bool {
	t, opens := wantMelt(f, f.Nodes[protection].Fuse, current)
	if !opens {
		return false
	}
	for _, other := range wantProtections(f, node) {
		if other == protection {
			continue
		}
		u, opensToo := wantMelt(f, f.Nodes[other].Fuse, greatest(f, other, current))
		if opensToo && !(t.Hi < u.Lo) {
			return false
		}
	}
	return true
}

// wantFirst returns all protections that certainly open first.
func wantFirst(f api.FeFeeder, node, current int) (all []int) {
	for _, p := range wantProtections(f, node) {
		if isFirst(f, node, p, current) {
			all = append(all, p)
		}
	}
	return all
}

// wantSelective returns the faults of the protection of a node, if there is any, for a fault of one kind.
func wantSelective(f api.FeFeeder, node int, earth bool) (all []api.FeFault) {
	x, own := wantFault(f, node, earth), wantOwn(f, node)
	if t, opens := wantMelt(f, f.Nodes[own].Fuse, x.Lo); !opens || t.Hi > f.Limit {
		all = append(all, api.FeFault{Error: 162, Node: node, Other: own})
	}
	for _, other := range wantProtections(f, node) {
		if other == own {
			continue
		}
		load := greatest(f, other, 0)
		for current := x.Lo; current <= x.Hi; current++ {
			t, opens := wantMelt(f, f.Nodes[own].Fuse, current)
			u, opensToo := wantMelt(f, f.Nodes[other].Fuse, current+load)
			if opens && opensToo && t.Hi >= u.Lo {
				all = append(all, api.FeFault{Error: 163, Node: node, Other: other})
				break
			}
		}
	}
	return all
}

func wantJudge(f api.FeFeeder) (all []api.FeFault) {
	for node := 1; node < len(f.Nodes); node++ {
		n := f.Nodes[node]
		for phase, x := range wantCurrents(f, node) {
			if x.Hi > f.Cables[n.Cable].Rated || n.Fuse >= 0 && x.Hi > f.Fuses[n.Fuse].Rated {
				all = append(all, api.FeFault{Error: 160, Node: node, Other: phase})
			}
		}
		for phase := range 3 {
			if wantDrop(f, node, phase) > f.Drop {
				all = append(all, api.FeFault{Error: 161, Node: node, Other: phase})
			}
		}
		if wantOwn(f, node) == -1 {
			all = append(all, api.FeFault{Error: 164, Node: node, Other: -1})
		} else {
			all = append(append(all, wantSelective(f, node, false)...), wantSelective(f, node, true)...)
		}
	}
	return all
}

func wantDark(f api.FeFeeder, open []api.FeOpen) (all []api.FeOpen) {
	for node := range f.Nodes {
		for phase := range 3 {
			if slices.ContainsFunc(open, func(o api.FeOpen) bool { return o.Phase == phase && isBehind(f, node, o.Node) }) {
				all = append(all, api.FeOpen{Node: node, Phase: phase})
			}
		}
	}
	return all
}
