package feed

import (
	"math/big"
	"math/rand"
	"slices"
	"testing"

	"linkboy/api"
)

// isSelective reports whether a node has protection, and no fault of it is among some.
func isSelective(f api.FeFeeder, node int, faults []api.FeFault) bool {
	return wantOwn(f, node) != -1 && !slices.ContainsFunc(faults, func(x api.FeFault) bool {
		return x.Node == node && (x.Error == api.FeErrSlow || x.Error == api.FeErrOther)
	})
}

// opensAfter returns how long a protection takes to open at a current, from its place between the least and the greatest time; it may never do.
func opensAfter(f api.FeFeeder, protection, current int, place float64) float64 {
	t, opens := wantMelt(f, f.Nodes[protection].Fuse, current)
	if !opens {
		return 1e18
	}
	return float64(t.Lo) + place*float64(t.Hi-t.Lo)
}

// P6.7
func TestOwnProtectionOpensFirst(t *testing.T) {
	r := rand.New(rand.NewSource(607))
	nodes, several := 0, 0
	for range 9000 {
		f := randomFeeder(r)
		f.Limit = from(r, f.Limit, 3000)
		faults, _ := Judge(f)
		for node := 1; node < len(f.Nodes); node++ {
			if !isSelective(f, node, faults) {
				continue
			}
			nodes++
			own, all := wantOwn(f, node), wantProtections(f, node)
			if len(all) > 1 {
				several++
			}
			x, _ := Fault(f, node, r.Intn(2) == 0)
			for range 30 {
				current := from(r, x.Lo, x.Hi)
				if got, e := First(f, node, current); got != own || e != api.OK {
					t.Fatalf("%v: First(%d, %d) = %d, %d, want %d", f, node, current, got, e, own)
				}
				soonest := opensAfter(f, own, current, r.Float64())
				if soonest > float64(f.Limit) {
					t.Fatalf("%v: at %d the protection of %d opens after %f", f, current, node, soonest)
				}
				for _, other := range all {
					carried := current + from(r, 0, greatest(f, other, 0))
					if after := opensAfter(f, other, carried, r.Float64()*float64(r.Intn(2))); other != own && after <= soonest {
						t.Fatalf("%v: at %d the protection %d opens after %f, that of %d after %f", f, carried, other, after, node, soonest)
					}
				}
			}
		}
	}
	if nodes < 1000 || several < 200 {
		t.Errorf("%d nodes, %d of them behind several protections", nodes, several)
	}
}

// P6.8
func TestOwnProtectionCutsItsNodesOff(t *testing.T) {
	r := rand.New(rand.NewSource(608))
	for range 1500 {
		f := randomFeeder(r)
		node, phase := r.Intn(len(f.Nodes)), r.Intn(3)
		own, _ := Own(f, node)
		if own == -1 {
			continue
		}
		var want []api.FeOpen
		for at := range f.Nodes {
			if isBehind(f, at, own) {
				want = append(want, api.FeOpen{Node: at, Phase: phase})
			}
		}
		got, e := Dark(f, []api.FeOpen{{Node: own, Phase: phase}})
		if !slices.Equal(got, want) || e != api.OK || !slices.Contains(got, api.FeOpen{Node: node, Phase: phase}) {
			t.Fatalf("Dark(%v, %d, %d) = %v, %d, want %v", f, own, phase, got, e, want)
		}
	}
}

// pick returns a number of an enclosure, often an end.
func pick(r *rand.Rand, x api.Encl) int {
	switch r.Intn(3) {
	case 0:
		return x.Lo
	case 1:
		return x.Hi
	}
	return from(r, x.Lo, x.Hi)
}

// lost returns four times the square of the length of the voltage that a phase loses on the way to a node, in nanovolts: of the currents of the phases, a of this one, and b and c, at angles of 120 degrees, a flows in the core, and their sum in the neutral.
func lost(r *rand.Rand, f api.FeFeeder, node, phase int, loads [][3]int) *big.Int {
	across, along := new(big.Int), new(big.Int) // twice what is in the direction of the phase, and what is square to it, by the square root of 3
	for _, at := range wantPath(f, node) {
		var sums [3]int
		for other := range f.Nodes {
			for p := range 3 {
				if isBehind(f, other, at) {
					sums[p] += loads[other][p]
				}
			}
		}
		a, b, c := sums[phase], sums[(phase+1)%3], sums[(phase+2)%3]
		n := f.Nodes[at]
		kind := f.Cables[n.Cable].Core
		out, back := n.Length*pick(r, kind), n.Length*pick(r, kind)
		along.Add(along, number(2*out*a+back*(2*a-b-c)))
		across.Add(across, number(back*(b-c)))
	}
	along.Mul(along, along)
	across.Mul(across, across)
	return along.Add(along, across.Mul(across, number(3)))
}

// P6.9: also where the path has several cables.
func TestLostVoltageIsWithinTheDrop(t *testing.T) {
	r := rand.New(rand.NewSource(609))
	near, children := 0, 0
	for n := range 3000 {
		f := randomFeeder(r)
		if n%100 == 0 {
			f = greatFeeder(r)
		}
		node, phase := r.Intn(len(f.Nodes)), r.Intn(3)
		if node > 0 && f.Nodes[node].Parent == 0 {
			children++
		}
		most, _ := Drop(f, node, phase)
		for range 5 {
			loads := make([][3]int, len(f.Nodes))
			for at := range loads {
				for p := range 3 {
					loads[at][p] = pick(r, f.Nodes[at].Loads[p])
				}
			}
			square := lost(r, f, node, phase, loads)
			bound := number(2 * most)
			bound.Mul(bound, number(1000000))
			bound.Mul(bound, bound)
			if square.Cmp(bound) > 0 {
				t.Fatalf("%v: %v flow, so that phase %d loses the root of %v / 4 nanovolts to %d, more than %d", f, loads, phase, square, node, most)
			}
			if bound.Cmp(square.Mul(square, number(2))) < 0 {
				near++
			}
		}
	}
	if near < 50 || children < 500 {
		t.Errorf("%d voltages were more than 7 tenths of the drop; %d times next to the source", near, children)
	}
}

// P6.10
func TestTrees(t *testing.T) {
	r := rand.New(rand.NewSource(610))
	for n := range 600 {
		f := randomFeeder(r)
		if n%20 == 0 {
			f = greatFeeder(r)
		}
		for node := 1; node < len(f.Nodes); node++ {
			sums := f.Nodes[node].Loads
			for child := range f.Nodes {
				if f.Nodes[child].Parent == node {
					x, _ := Currents(f, child)
					for phase := range 3 {
						sums[phase].Lo += x[phase].Lo
						sums[phase].Hi += x[phase].Hi
					}
				}
			}
			if got, e := Currents(f, node); got != sums || e != api.OK {
				t.Fatalf("Currents(%v, %d) = %v, %d, want %v", f, node, got, e, sums)
			}
			parent := f.Nodes[node].Parent
			for phase := range 3 {
				less, _ := Drop(f, parent, phase)
				if more, _ := Drop(f, node, phase); more < less {
					t.Fatalf("%v: the drop at %d is %d, behind it %d", f, parent, less, more)
				}
			}
			for _, earth := range []bool{false, true} {
				x, _ := Fault(f, node, earth)
				if y, e := Fault(f, parent, earth); e == api.OK && (x.Lo > y.Lo || x.Hi > y.Hi) {
					t.Fatalf("%v: a fault at %d has %v, behind it %v", f, parent, y, x)
				}
			}
		}
	}
}

// wider returns a feeder with wider loads.
func wider(r *rand.Rand, f api.FeFeeder) api.FeFeeder {
	f.Nodes = slices.Clone(f.Nodes)
	for at := 1; at < len(f.Nodes); at++ {
		for phase := range 3 {
			x := &f.Nodes[at].Loads[phase]
			if r.Intn(3) == 0 {
				x.Lo = from(r, 0, x.Lo)
			}
			if r.Intn(3) == 0 {
				x.Hi = from(r, x.Hi, min(x.Hi+100, api.MaxLoad))
			}
		}
	}
	return f
}

// P6.11: wider loads.
func TestWiderLoads(t *testing.T) {
	r := rand.New(rand.NewSource(611))
	for range 500 {
		f := randomFeeder(r)
		g := wider(r, f)
		for node := 1; node < len(f.Nodes); node++ {
			x, _ := Currents(f, node)
			y, _ := Currents(g, node)
			for phase := range 3 {
				if y[phase].Lo > x[phase].Lo || y[phase].Hi < x[phase].Hi {
					t.Fatalf("%v, %v: the currents of %d are %v, and then %v", f, g, node, x, y)
				}
				a, _ := Drop(f, node, phase)
				if b, _ := Drop(g, node, phase); b < a {
					t.Fatalf("%v, %v: the drop at %d is %d, and then %d", f, g, node, a, b)
				}
			}
			a, _ := Neutral(f, node)
			if b, _ := Neutral(g, node); b < a {
				t.Fatalf("%v, %v: the neutral current at %d is %d, and then %d", f, g, node, a, b)
			}
		}
		faults, _ := Judge(f)
		then, _ := Judge(g)
		for _, x := range faults {
			if (x.Error == api.FeErrLoad || x.Error == api.FeErrDrop) && !slices.Contains(then, x) {
				t.Fatalf("%v, %v: %v goes away", f, g, x)
			}
		}
	}
}

// P6.11: more open phases.
func TestMoreOpenPhases(t *testing.T) {
	r := rand.New(rand.NewSource(612))
	for range 500 {
		f := randomFeeder(r)
		open, more := randomOpen(r, f), randomOpen(r, f)
		before, _ := Dark(f, open)
		after, _ := Dark(f, append(more, open...))
		for _, x := range before {
			if !slices.Contains(after, x) {
				t.Fatalf("%v: with %v, %v has no supply; with %v more it has it", f, open, x, more)
			}
		}
	}
}
