package feed

import (
	"math/rand"
	"slices"
	"strconv"
	"testing"

	"linkboy/api"
)

// from returns a number from least to most.
func from(r *rand.Rand, least, most int) int { return least + r.Intn(most-least+1) }

// within returns an enclosure from least to most.
func within(r *rand.Rand, least, most int) api.Encl {
	a, b := from(r, least, most), from(r, least, most)
	return api.Encl{Lo: min(a, b), Hi: max(a, b)}
}

// around returns a short enclosure from least to most.
func around(r *rand.Rand, least, most int) api.Encl {
	lo := from(r, least, most)
	return api.Encl{Lo: lo, Hi: from(r, lo, min(most, lo+(most-least)/8))}
}

// ascending returns so many numbers from least to most, each once.
func ascending(r *rand.Rand, count, least, most int) (all []int) {
	for len(all) < count {
		if n := from(r, least, most); !slices.Contains(all, n) {
			all = append(all, n)
		}
	}
	slices.Sort(all)
	return all
}

// randomFuse returns a kind of fuse for currents up to most.
func randomFuse(r *rand.Rand, most int) (k api.FeFuse) {
	k.Rated = from(r, 1, most)
	t := within(r, 1, 3000)
	for _, current := range ascending(r, from(r, 1, 4), 1, most) {
		k.Points = append(k.Points, api.FePoint{Current: current, Melt: t})
		t.Lo = from(r, 1+t.Lo/9, t.Lo)
		t.Hi = max(t.Lo, from(r, 1+t.Hi/9, t.Hi))
	}
	return k
}

// sizes say how many of all things a random feeder has, and how great its numbers are.
type sizes struct {
	cables, fuses int // at most
	nodes         api.Encl
	back          int // to how many nodes before the last one a node may be connected
	core, earth   int
	rated         api.Encl
	current       int // of the points of fuses
	length, load  int
	volts, source api.Encl
	drop          int
}

// feederOf returns a random feeder of some sizes.
func feederOf(r *rand.Rand, s sizes) (f api.FeFeeder) {
	for i := range from(r, 1, s.cables) {
		f.Cables = append(f.Cables, api.FeCable{Name: "c" + strconv.Itoa(i), Core: around(r, 1, s.core), Earth: around(r, 1, s.earth), Rated: pickFrom(r, s.rated)})
	}
	for i := range from(r, 1, s.fuses) {
		f.Fuses = append(f.Fuses, randomFuse(r, s.current))
		f.Fuses[i].Name = "f" + strconv.Itoa(i)
	}
	f.Nodes = []api.FeNode{{Name: "source", Parent: -1, Cable: -1, Fuse: -1}}
	for i := range pickFrom(r, s.nodes) {
		n := api.FeNode{Name: "n" + strconv.Itoa(i), Parent: from(r, max(0, i-s.back), i), Cable: r.Intn(len(f.Cables)), Length: from(r, 1, s.length), Fuse: from(r, -1, len(f.Fuses)-1)}
		for phase := range 3 {
			if r.Intn(3) > 0 {
				n.Loads[phase] = within(r, 0, s.load)
			}
		}
		f.Nodes = append(f.Nodes, n)
	}
	f.Volts, f.Source = around(r, s.volts.Lo, s.volts.Hi), around(r, s.source.Lo, s.source.Hi)
	f.Drop, f.Limit = from(r, 0, s.drop), from(r, 1, 3000)
	return f
}

func pickFrom(r *rand.Rand, x api.Encl) int { return from(r, x.Lo, x.Hi) }

// randomFeeder returns a feeder whose currents of faults are so small that all of them can be tried.
func randomFeeder(r *rand.Rand) api.FeFeeder {
	return feederOf(r, sizes{
		cables: 3, fuses: 4, nodes: api.Encl{Hi: 6}, back: 2, core: 4000, earth: 8000, rated: api.Encl{Lo: 300, Hi: 2000}, current: 1500,
		length: 200, load: 150, volts: api.Encl{Lo: 100, Hi: 900}, source: api.Encl{Lo: 400000, Hi: 1000000}, drop: 2000,
	})
}

// greatFeeder returns a feeder with numbers up to the greatest ones.
func greatFeeder(r *rand.Rand) api.FeFeeder {
	return feederOf(r, sizes{
		cables: 10, fuses: 10, nodes: api.Encl{Lo: 30, Hi: 39}, back: 3, core: 1000000, earth: 1000000, rated: api.Encl{Lo: 1, Hi: 100000000}, current: 100000000,
		length: 5000, load: 1000000, volts: api.Encl{Lo: 1, Hi: 1000000}, source: api.Encl{Lo: 1, Hi: 1000000000}, drop: 1000000,
	})
}

// P6.2, P6.3, P6.4: for random feeders, of small and of great numbers.
func TestRandomNodes(t *testing.T) {
	r := rand.New(rand.NewSource(602))
	firsts := map[bool]int{}
	for n := range 600 {
		f := randomFeeder(r)
		if n%30 == 0 {
			f = greatFeeder(r)
		}
		if part, at, e := Check(f); e != api.OK {
			t.Fatalf("Check(%v) = %d, %d, %d", f, part, at, e)
		}
		node := r.Intn(len(f.Nodes))
		if got, e := Path(f, node); !slices.Equal(got, wantPath(f, node)) || e != api.OK {
			t.Fatalf("Path(%v, %d) = %v, %d", f, node, got, e)
		}
		if got, e := Own(f, node); got != wantOwn(f, node) || e != api.OK {
			t.Fatalf("Own(%v, %d) = %d, %d", f, node, got, e)
		}
		phase := r.Intn(3)
		if got, e := Drop(f, node, phase); got != wantDrop(f, node, phase) || e != api.OK {
			t.Fatalf("Drop(%v, %d, %d) = %d, %d, want %d", f, node, phase, got, e, wantDrop(f, node, phase))
		}
		for range 20 {
			current := from(r, 0, 1800)
			want := wantFirst(f, node, current)
			if got, e := First(f, node, current); e != api.OK || len(want) > 1 || len(want) == 0 && got != -1 || len(want) == 1 && got != want[0] {
				t.Fatalf("First(%v, %d, %d) = %d, %d, want %v", f, node, current, got, e, want)
			}
			firsts[len(want) == 1 && want[0] != wantOwn(f, node)]++
			fuse := r.Intn(len(f.Fuses))
			melts, isOpen := wantMelt(f, fuse, current)
			if got, opens, e := Melt(f, fuse, current); got != melts || opens != isOpen || e != api.OK {
				t.Fatalf("Melt(%v, %d, %d) = %v, %v, %d", f, fuse, current, got, opens, e)
			}
		}
		if node > 0 {
			compareCable(t, f, node)
		}
	}
	if firsts[true] < 50 {
		t.Errorf("another protection than its own is first: %v", firsts)
	}
}

// compareCable checks what is said of the cable to a node.
func compareCable(t *testing.T, f api.FeFeeder, node int) {
	t.Helper()
	if got, e := Currents(f, node); got != wantCurrents(f, node) || e != api.OK {
		t.Fatalf("Currents(%v, %d) = %v, %d", f, node, got, e)
	}
	if got, e := Neutral(f, node); got != wantNeutral(f, node) || e != api.OK {
		t.Fatalf("Neutral(%v, %d) = %d, %d, want %d", f, node, got, e, wantNeutral(f, node))
	}
	for _, earth := range []bool{false, true} {
		if got, e := Fault(f, node, earth); got != wantFault(f, node, earth) || e != api.OK {
			t.Fatalf("Fault(%v, %d, %v) = %v, %d, want %v", f, node, earth, got, e, wantFault(f, node, earth))
		}
	}
}

// P6.5: for random feeders.
func TestRandomJudge(t *testing.T) {
	r := rand.New(rand.NewSource(605))
	found, none := map[api.Errno]int{}, 0
	for range 3000 {
		f := randomFeeder(r)
		want := wantJudge(f)
		got, e := Judge(f)
		if !slices.Equal(got, want) || e != api.OK {
			t.Fatalf("Judge(%v) = %v, %d, want %v", f, got, e, want)
		}
		for _, x := range got {
			found[x.Error]++
		}
		if len(got) == 0 && len(f.Nodes) > 1 {
			none++
		}
	}
	for _, e := range []api.Errno{api.FeErrLoad, api.FeErrDrop, api.FeErrSlow, api.FeErrOther, api.FeErrBare} {
		if found[e] < 300 {
			t.Errorf("fault %d was found %d times", e, found[e])
		}
	}
	if none < 30 {
		t.Errorf("%d feeders without faults", none)
	}
}

// P6.6: for random feeders.
func TestRandomDark(t *testing.T) {
	r := rand.New(rand.NewSource(606))
	for range 2000 {
		f := randomFeeder(r)
		open := randomOpen(r, f)
		if got, e := Dark(f, open); !slices.Equal(got, wantDark(f, open)) || e != api.OK {
			t.Fatalf("Dark(%v, %v) = %v, %d, want %v", f, open, got, e, wantDark(f, open))
		}
	}
}

func randomOpen(r *rand.Rand, f api.FeFeeder) (open []api.FeOpen) {
	for range r.Intn(5) {
		open = append(open, api.FeOpen{Node: r.Intn(len(f.Nodes)), Phase: r.Intn(3)})
	}
	return open
}
