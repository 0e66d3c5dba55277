package feed

import (
	"math"
	"slices"
	"strings"
	"testing"

	"linkboy/api"
)

// fault is something that Check refuses.
type fault struct {
	name     string
	part, at int
	e        api.Errno
	make     func(f *api.FeFeeder)
}

// full returns a feeder some of whose numbers are as great, or as little, as they may be.
func full() api.FeFeeder {
	f := example()
	f.Cables = append(f.Cables,
		api.FeCable{Name: "thin", Core: api.Encl{Lo: 1, Hi: api.MaxCore}, Earth: api.Encl{Lo: api.MaxCore, Hi: api.MaxCore}, Rated: 1},
		api.FeCable{Name: "thick", Core: api.Encl{Lo: api.MaxCore, Hi: api.MaxCore}, Earth: api.Encl{Lo: 1, Hi: 1}, Rated: api.MaxCurrent})
	f.Fuses = append(f.Fuses, api.FeFuse{Name: "eight", Rated: api.MaxCurrent, Points: points(1, 1, api.MaxMelt, 2, 1, 9, 3, 1, 9, 4, 1, 8, 5, 1, 7, 6, 1, 6, 7, 1, 1, api.MaxCurrent, 1, 1)})
	f.Nodes = append(f.Nodes, api.FeNode{Name: "d", Parent: 0, Cable: 2, Length: api.MaxCable, Fuse: 2, Loads: [3]api.Encl{{Lo: 0, Hi: api.MaxLoad}, {Lo: api.MaxLoad, Hi: api.MaxLoad}, {}}})
	f.Volts, f.Source = api.Encl{Lo: 1, Hi: api.MaxVolts}, api.Encl{Lo: 1, Hi: 1000000000}
	f.Drop, f.Limit = api.MaxVolts, api.MaxMelt
	return f
}

// enclosures returns some that are not within others from least to most.
func enclosures(least, most int) []api.Encl {
	return []api.Encl{{Lo: least - 1, Hi: most}, {Lo: least, Hi: most + 1}, {Lo: least + 1, Hi: least}, {Lo: most + 1, Hi: most + 1}, {Lo: math.MinInt, Hi: most}, {Lo: least, Hi: math.MaxInt}, {Lo: math.MaxInt, Hi: math.MinInt}}
}

// faults returns all kinds of faults, in lists of which an earlier one decides.
func faults() [][]fault {
	all := feederFaults()
	for _, at := range []int{0, 1, 2} {
		all = append(all, cableFaults(at)...)
	}
	for _, at := range []int{0, 1, 2} {
		all = append(all, fuseFaults(at)...)
	}
	all = append(all, nameFaults(3, 0, "source", func(f *api.FeFeeder, at int) *string { return &f.Nodes[at].Name })...)
	all = append(all, sourceFaults())
	for _, at := range []int{1, 2, 4} {
		all = append(all, nodeFaults(at)...)
	}
	return slices.DeleteFunc(all, func(list []fault) bool { return len(list) == 0 })
}

func feederFaults() [][]fault {
	var long, beyond []fault
	for _, n := range []int{11, 100} {
		long = append(long,
			fault{"too many cables", 0, 0, api.ErrLong, func(f *api.FeFeeder) { f.Cables = make([]api.FeCable, n) }},
			fault{"too many fuses", 0, 0, api.ErrLong, func(f *api.FeFeeder) { f.Fuses = make([]api.FeFuse, n) }},
			fault{"too many nodes", 0, 0, api.ErrLong, func(f *api.FeFeeder) { f.Nodes = make([]api.FeNode, n+30) }})
	}
	add := func(name string, make func(f *api.FeFeeder)) {
		beyond = append(beyond, fault{name, 0, 0, api.ErrRange, make})
	}
	for _, x := range enclosures(1, 1000000) {
		add("a voltage", func(f *api.FeFeeder) { f.Volts = x })
	}
	for _, x := range enclosures(1, 1000000000) {
		add("a source", func(f *api.FeFeeder) { f.Source = x })
	}
	for _, n := range []int{-1, 1000001, math.MinInt, math.MaxInt} {
		add("a drop", func(f *api.FeFeeder) { f.Drop = n })
	}
	for _, n := range []int{0, 100000001, math.MinInt, math.MaxInt} {
		add("a limit", func(f *api.FeFeeder) { f.Limit = n })
	}
	return [][]fault{
		long,
		{{"no node", 0, 0, api.ErrNone, func(f *api.FeFeeder) { f.Nodes = nil }}, {"no node", 0, 0, api.ErrNone, func(f *api.FeFeeder) { f.Nodes = []api.FeNode{} }}},
		beyond,
	}
}

// nameFaults returns the faults of the name of a thing, before which there is another one with a name.
func nameFaults(part, at int, before string, name func(f *api.FeFeeder, at int) *string) [][]fault {
	var form, twice []fault
	for _, s := range []string{"", "A", "1a", "a b", "-a", strings.Repeat("a", 25), "\xff"} {
		form = append(form, fault{"no name", part, at, api.ErrForm, func(f *api.FeFeeder) { *name(f, at) = s }})
	}
	if at > 0 {
		twice = append(twice, fault{"a name twice", part, at, api.ErrTwice, func(f *api.FeFeeder) { *name(f, at) = before }})
	}
	return [][]fault{form, twice}
}

func cableFaults(at int) [][]fault {
	var beyond []fault
	add := func(name string, make func(c *api.FeCable)) {
		beyond = append(beyond, fault{name, 1, at, api.ErrRange, func(f *api.FeFeeder) { make(&f.Cables[at]) }})
	}
	for _, x := range enclosures(1, 1000000) {
		add("a core", func(c *api.FeCable) { c.Core = x })
		add("an earth", func(c *api.FeCable) { c.Earth = x })
	}
	for _, n := range []int{0, 100000001, math.MinInt, math.MaxInt} {
		add("a rated current", func(c *api.FeCable) { c.Rated = n })
	}
	return append(nameFaults(1, at, "copper", func(f *api.FeFeeder, at int) *string { return &f.Cables[at].Name }), beyond)
}

func fuseFaults(at int) [][]fault {
	fail := func(name string, e api.Errno, make func(k *api.FeFuse)) fault {
		return fault{name, 2, at, e, func(f *api.FeFeeder) { make(&f.Fuses[at]) }}
	}
	var long, beyond, descending []fault
	for _, n := range []int{0, 9, 100} {
		long = append(long, fail("points", api.ErrLong, func(k *api.FeFuse) { k.Points = make([]api.FePoint, n) }))
	}
	for _, n := range []int{0, 100000001, math.MinInt, math.MaxInt} {
		beyond = append(beyond, fail("a rated current", api.ErrRange, func(k *api.FeFuse) { k.Rated = n }))
		for _, i := range []int{0, 1} {
			beyond = append(beyond, fail("a current", api.ErrRange, func(k *api.FeFuse) { k.Points[i].Current = n }))
		}
	}
	for _, x := range enclosures(1, 100000000) {
		for _, i := range []int{0, 1} {
			beyond = append(beyond, fail("a time", api.ErrRange, func(k *api.FeFuse) { k.Points[i].Melt = x }))
		}
	}
	for _, p := range [][]api.FePoint{
		points(5, 7, 9, 5, 7, 9), points(5, 7, 9, 4, 7, 9), points(5, 7, 9, 6, 8, 9), points(5, 7, 9, 6, 7, 10), points(5, 7, 9, 6, 7, 9, 7, 6, 8, 8, 6, 9), points(5, 7, 9, 6, 7, 9, 7, 6, 8, 7, 5, 7), points(100000000, 7, 9, 1, 7, 9),
	} {
		descending = append(descending, fail("a curve", api.ErrArg, func(k *api.FeFuse) { k.Points = slices.Clone(p) }))
	}
	names := nameFaults(2, at, "ten", func(f *api.FeFeeder, at int) *string { return &f.Fuses[at].Name })
	return append(names, long, beyond, descending)
}

func sourceFaults() (all []fault) {
	add := func(name string, make func(n *api.FeNode)) {
		all = append(all, fault{name, 3, 0, api.ErrArg, func(f *api.FeFeeder) { make(&f.Nodes[0]) }})
	}
	for _, k := range []int{0, -2, 1, math.MinInt, math.MaxInt} {
		add("the source has a parent", func(n *api.FeNode) { n.Parent = k })
		add("the source has a cable", func(n *api.FeNode) { n.Cable = k })
		add("the source has a fuse", func(n *api.FeNode) { n.Fuse = k })
		if k != 0 {
			add("the source has a length", func(n *api.FeNode) { n.Length = k })
			add("the source has loads", func(n *api.FeNode) { n.Loads[1].Hi = k })
			add("the source has loads", func(n *api.FeNode) { n.Loads[2].Lo = k })
		}
	}
	return all
}

func nodeFaults(at int) [][]fault {
	var none, beyond []fault
	add := func(list *[]fault, name string, e api.Errno, make func(n *api.FeNode)) {
		*list = append(*list, fault{name, 3, at, e, func(f *api.FeFeeder) { make(&f.Nodes[at]) }})
	}
	for _, k := range []int{-1, at, at + 1, 5, math.MinInt, math.MaxInt} {
		add(&none, "no such parent", api.ErrNone, func(n *api.FeNode) { n.Parent = k })
	}
	for _, k := range []int{-1, 3, math.MinInt, math.MaxInt} {
		add(&none, "no such cable", api.ErrNone, func(n *api.FeNode) { n.Cable = k })
	}
	for _, k := range []int{-2, 3, math.MinInt, math.MaxInt} {
		add(&none, "no such fuse", api.ErrNone, func(n *api.FeNode) { n.Fuse = k })
	}
	for _, k := range []int{0, -1, 5001, math.MinInt, math.MaxInt} {
		add(&beyond, "no such length", api.ErrRange, func(n *api.FeNode) { n.Length = k })
	}
	for _, x := range enclosures(0, 1000000) {
		for phase := range 3 {
			add(&beyond, "no such load", api.ErrRange, func(n *api.FeNode) { n.Loads[phase] = x })
		}
	}
	names := nameFaults(3, at, "source", func(f *api.FeFeeder, at int) *string { return &f.Nodes[at].Name })
	return append(names, none, beyond)
}

// refuses checks that Check says of a feeder what a fault is.
func refuses(t *testing.T, f api.FeFeeder, want fault, names ...string) {
	t.Helper()
	if part, at, e := Check(f); part != want.part || at != want.at || e != want.e {
		t.Errorf("Check with %s = %d, %d, %d, want %d, %d, %d", strings.Join(names, " and "), part, at, e, want.part, want.at, want.e)
	}
}

// P6.1
func TestCheckFindsEachFault(t *testing.T) {
	for _, list := range faults() {
		for _, f := range list {
			feeder := full()
			f.make(&feeder)
			refuses(t, feeder, f, f.name)
			if got, e := Judge(feeder); len(got) != 0 || e != f.e {
				t.Errorf("Judge with %s = %v, %d, want %d", f.name, got, e, f.e)
			}
		}
	}
}

// P6.1
func TestCheckTakesTheFirstFault(t *testing.T) {
	all := faults()
	for i, earlier := range all {
		for _, later := range all[i+1:] {
			for _, f := range earlier {
				for _, g := range later {
					feeder := full()
					g.make(&feeder) // before the other one, which may take away what it needs
					f.make(&feeder)
					refuses(t, feeder, f, f.name, g.name)
				}
			}
		}
	}
}

// P6.1
func TestCheckTakesWhatIsAllowed(t *testing.T) {
	for i, change := range []func(f *api.FeFeeder){
		func(f *api.FeFeeder) {},
		func(f *api.FeFeeder) { *f = example() },
		func(f *api.FeFeeder) { *f = single() },
		func(f *api.FeFeeder) { *f = longest() },
		func(f *api.FeFeeder) { *f = single(); f.Cables, f.Fuses = []api.FeCable{}, []api.FeFuse{} },
		func(f *api.FeFeeder) { f.Drop, f.Limit = 0, 1 },
		func(f *api.FeFeeder) {
			f.Volts, f.Source = api.Encl{Lo: 1, Hi: 1}, api.Encl{Lo: 1000000000, Hi: 1000000000}
		},
		func(f *api.FeFeeder) { f.Volts, f.Source = api.Encl{Lo: 1000000, Hi: 1000000}, api.Encl{Lo: 1, Hi: 1} },
		func(f *api.FeFeeder) { f.Cables[0].Name, f.Fuses[0].Name, f.Nodes[0].Name = "a", "a", "c9-" },
		func(f *api.FeFeeder) { f.Fuses[1].Points = f.Fuses[1].Points[1:] },
		func(f *api.FeFeeder) { f.Fuses[0].Points = points(1, 5, 5, 2, 5, 5, 3, 4, 5, 4, 4, 4) },
		func(f *api.FeFeeder) { f.Nodes[4].Parent = 3 },
		func(f *api.FeFeeder) {
			for n := range byte(7) {
				c, k := f.Cables[n%3], f.Fuses[n%3]
				c.Name, k.Name = "x"+string(rune(48+n)), "x"+string(rune(48+n))
				f.Cables, f.Fuses = append(f.Cables, c), append(f.Fuses, k)
			}
			f.Nodes[1].Cable, f.Nodes[1].Fuse = 9, 9
		},
	} {
		f := full()
		change(&f)
		if part, at, e := Check(f); part != 0 || at != 0 || e != api.OK {
			t.Errorf("feeder %d: %d, %d, %d", i, part, at, e)
		}
	}
}
