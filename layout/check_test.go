package layout

import (
	"math"
	"slices"
	"strings"
	"testing"

	"linkboy/api"
)

// fault is something that Check refuses.
type fault struct {
	name     string
	part, at int
	e        api.Errno
	make     func(t *api.LoTask)
}

// full returns a task with several things of each kind, some of which are as great, or as little, as they may be.
func full() api.LoTask {
	t := example()
	t.Scene.Road.Roads = append(t.Scene.Road.Roads, api.RdRoad{Name: "long", Points: [][2]int{{-100000, 50000}, {100000, 50000}}, Width: 100})
	t.Sites = append(t.Sites, api.LoSite{X: -100000, Y: 100000, DX: 1000, DY: -1000}, api.LoSite{X: 100000, Y: -100000, DX: -1000})
	t.Poles = []api.LoPole{{Height: 1, Price: api.MaxPrice}, {Height: 80}, {Height: 200}}
	t.Lamps = []api.LoLamp{{Price: api.MaxPrice}, {Hours: api.MaxHours, Months: api.MaxMonths}}
	t.Levels = []int{1, 2, 1000}
	t.Steps = 2
	class := api.LtClass{Kind: api.LtLux, Step: 5000, DX: 1}
	t.Needs = []api.LoNeed{{Class: class}, {Road: 1, Class: class}, {Class: class}}
	t.Sky, t.Window = math.MaxInt, math.MaxInt
	t.Hours, t.PerKwh = api.MaxLoHours, api.MaxPerKwh
	return t
}

// faults returns all kinds of faults, in lists of which an earlier one decides.
func faults() [][]fault {
	all := [][]fault{
		{
			{"a table without a name", 1, 0, api.ErrForm, func(t *api.LoTask) { t.Scene.Catalog.Tables[0].Name = "" }},
			{"no such surface", 1, 0, api.ErrNone, func(t *api.LoTask) { t.Scene.Surface = 2 }},
			{"a road that is too narrow", 1, 0, api.ErrRange, func(t *api.LoTask) { t.Scene.Road.Roads[1].Width = 99 }},
			{"a column without a lamp", 1, 0, api.ErrArg, func(t *api.LoTask) {
				t.Scene.Road.Columns, t.Scene.Lamps = []api.RdColumn{{Name: "a", Height: 1, DX: 1}}, nil
			}},
			{"a lamp without a column", 1, 0, api.ErrArg, func(t *api.LoTask) { t.Scene.Lamps, t.Scene.Road.Columns = []int{0}, nil }},
			{"a use without a column", 1, 0, api.ErrArg, func(t *api.LoTask) { t.Scene.Uses, t.Scene.Road.Columns = []api.LmUse{{}}, nil }},
			{"no such lamp", 1, 0, api.ErrNone, func(t *api.LoTask) {
				t.Scene.Road.Columns, t.Scene.Lamps, t.Scene.Uses = []api.RdColumn{{Name: "a", Height: 1, DX: 1}}, []int{1}, []api.LmUse{{}}
			}},
		},
		{
			{"a column", 1, 0, api.ErrArg, func(t *api.LoTask) {
				t.Scene.Road.Columns, t.Scene.Lamps, t.Scene.Uses = []api.RdColumn{{Name: "a", Height: 1, DX: 1}}, []int{-1}, []api.LmUse{{}}
			}},
		},
		countFaults(),
	}
	for _, at := range []int{0, 1, 4} {
		all = append(all, siteFaults(at)...)
	}
	for _, at := range []int{0, 1, 2} {
		all = append(all, poleFaults(at))
	}
	for _, at := range []int{0, 1} {
		all = append(all, lampFaults(at)...)
	}
	for _, at := range []int{0, 1, 2} {
		all = append(all, levelFaults(at)...)
	}
	for _, at := range []int{0, 1, 2} {
		all = append(all, needFaults(at)...)
	}
	return append(all, goalFaults()...)
}

func countFaults() (all []fault) {
	long := func(name string, make func(t *api.LoTask)) { all = append(all, fault{name, 2, 0, api.ErrLong, make}) }
	for _, n := range []int{0, 25, 100} {
		long("sites", func(t *api.LoTask) { t.Sites = make([]api.LoSite, n) })
	}
	for _, n := range []int{0, 5, 100} {
		long("poles", func(t *api.LoTask) { t.Poles, t.Steps = make([]api.LoPole, n), 1 })
		long("lamps", func(t *api.LoTask) { t.Lamps, t.Steps = make([]api.LoLamp, n), 1 })
		long("levels", func(t *api.LoTask) { t.Levels, t.Steps = make([]int, n), 1 })
	}
	for _, n := range []int{0, -1, 5, math.MinInt, math.MaxInt, math.MaxInt/72 + 1} {
		long("steps", func(t *api.LoTask) { t.Steps = n })
	}
	for _, n := range []int{4, 100} {
		long("needs", func(t *api.LoTask) { t.Needs = make([]api.LoNeed, n) })
	}
	long("layouts", func(t *api.LoTask) { t.Steps = 4 }) // 288
	return all
}

func siteFaults(at int) [][]fault {
	var beyond []fault
	for _, n := range []int{100001, -100001, math.MinInt, math.MaxInt} {
		beyond = append(beyond,
			fault{"a site too far", 3, at, api.ErrRange, func(t *api.LoTask) { t.Sites[at].X = n }},
			fault{"a site too far", 3, at, api.ErrRange, func(t *api.LoTask) { t.Sites[at].Y = n }})
	}
	for _, n := range []int{1001, -1001, math.MinInt, math.MaxInt} {
		beyond = append(beyond,
			fault{"a heading too far", 3, at, api.ErrRange, func(t *api.LoTask) { t.Sites[at].DX = n }},
			fault{"a heading too far", 3, at, api.ErrRange, func(t *api.LoTask) { t.Sites[at].DY = n }})
	}
	return [][]fault{beyond, {{"no heading", 3, at, api.ErrArg, func(t *api.LoTask) { t.Sites[at].DX, t.Sites[at].DY = 0, 0 }}}}
}

func poleFaults(at int) (all []fault) {
	for _, n := range []int{0, 201, math.MinInt, math.MaxInt} {
		all = append(all, fault{"no such height", 4, at, api.ErrRange, func(t *api.LoTask) { t.Poles[at].Height = n }})
	}
	for _, n := range []int{-1, 100000001, math.MinInt, math.MaxInt} {
		all = append(all, fault{"no such price", 4, at, api.ErrRange, func(t *api.LoTask) { t.Poles[at].Price = n }})
	}
	return all
}

func lampFaults(at int) [][]fault {
	var none, beyond []fault
	for _, n := range []int{-1, 1, math.MinInt, math.MaxInt} {
		none = append(none, fault{"no such lamp", 5, at, api.ErrNone, func(t *api.LoTask) { t.Lamps[at].Lamp = n }})
	}
	for _, l := range []api.LoLamp{{Price: -1}, {Price: 100000001}, {Hours: -1}, {Hours: 200001}, {Months: -1}, {Months: 601}, {Price: math.MinInt}, {Hours: math.MaxInt}, {Months: math.MaxInt}} {
		beyond = append(beyond, fault{"a number of a lamp", 5, at, api.ErrRange, func(t *api.LoTask) {
			l.Lamp = t.Lamps[at].Lamp
			t.Lamps[at] = l
		}})
	}
	return [][]fault{none, beyond}
}

func levelFaults(at int) [][]fault {
	var beyond, low []fault
	for _, n := range []int{0, -1, 1001, math.MinInt, math.MaxInt} {
		beyond = append(beyond, fault{"no such level", 6, at, api.ErrRange, func(t *api.LoTask) { t.Levels[at] = n }})
	}
	if at == 0 {
		return [][]fault{beyond}
	}
	low = append(low, fault{"a level twice", 6, at, api.ErrArg, func(t *api.LoTask) { t.Levels[at], t.Levels[at-1] = at, at }})
	low = append(low, fault{"a lower level", 6, at, api.ErrArg, func(t *api.LoTask) { t.Levels[at], t.Levels[at-1] = 1, 1000 }})
	return [][]fault{beyond, low}
}

func needFaults(at int) [][]fault {
	fail := func(name string, e api.Errno, make func(n *api.LoNeed)) fault {
		return fault{name, 7, at, e, func(t *api.LoTask) { make(&t.Needs[at]) }}
	}
	var roads, kinds, numbers []fault
	for _, n := range []int{-1, 2, math.MinInt, math.MaxInt} {
		roads = append(roads, fail("no such road", api.ErrNone, func(need *api.LoNeed) { need.Road = n }))
	}
	for _, n := range []int{0, 3, math.MinInt, math.MaxInt} {
		kinds = append(kinds, fail("no such class", api.ErrArg, func(need *api.LoNeed) { need.Class.Kind = n }))
	}
	for _, n := range []int{-1, 1000000001} {
		numbers = append(numbers,
			fail("no such average", api.ErrRange, func(need *api.LoNeed) { need.Class.Average = n }), fail("no such least", api.ErrRange, func(need *api.LoNeed) { need.Class.Least = n }),
			fail("no such uniformity", api.ErrRange, func(need *api.LoNeed) { need.Class.Uniform = n }), fail("no such glare", api.ErrRange, func(need *api.LoNeed) { need.Class.Glare = n }),
			fail("no such step", api.ErrRange, func(need *api.LoNeed) { need.Class.Step = n }))
	}
	return [][]fault{
		roads, kinds, numbers,
		{fail("no direction", api.ErrArg, func(need *api.LoNeed) { need.Class.DX, need.Class.DY = 0, 0 })},
		{{"no surface", 7, at, api.ErrNone, func(t *api.LoTask) {
			t.Scene.Surface, t.Needs[at].Class.Kind = -1, api.LtBright
		}}},
		{fail("too many squares", api.ErrLong, func(need *api.LoNeed) { need.Road, need.Class.Step = 1, 100 })},
	}
}

func goalFaults() [][]fault {
	var numbers, goals []fault
	beyond := func(name string, make func(t *api.LoTask)) {
		numbers = append(numbers, fault{name, 8, 0, api.ErrRange, make})
	}
	for _, n := range []int{-1, math.MinInt} {
		beyond("less than nothing to the sky", func(t *api.LoTask) { t.Sky = n })
		beyond("less than nothing to windows", func(t *api.LoTask) { t.Window = n })
	}
	for _, n := range []int{-1, math.MinInt, math.MaxInt} {
		beyond("no such hours", func(t *api.LoTask) { t.Hours = n })
		beyond("no such price of energy", func(t *api.LoTask) { t.PerKwh = n })
	}
	beyond("too many hours", func(t *api.LoTask) { t.Hours = 1000001 })
	beyond("too great a price of energy", func(t *api.LoTask) { t.PerKwh = 10001 })
	for _, n := range []int{0, 3, -1, math.MinInt, math.MaxInt} {
		goals = append(goals, fault{"no such goal", 8, 0, api.ErrArg, func(t *api.LoTask) { t.Goal = n }})
	}
	return [][]fault{numbers, goals}
}

// refuses checks that Check says of a task what a fault is.
func refuses(t *testing.T, task api.LoTask, want fault, names ...string) {
	t.Helper()
	if part, at, e := Check(task); part != want.part || at != want.at || e != want.e {
		t.Errorf("Check with %s = %d, %d, %d, want %d, %d, %d", strings.Join(names, " and "), part, at, e, want.part, want.at, want.e)
	}
}

// P5.1
func TestCheckFindsEachFault(t *testing.T) {
	for _, list := range faults() {
		for _, f := range list {
			task := full()
			f.make(&task)
			refuses(t, task, f, f.name)
		}
	}
}

// P5.1
func TestCheckTakesTheFirstFault(t *testing.T) {
	all := faults()
	for i, earlier := range all {
		for _, later := range all[i+1:] {
			for _, f := range earlier {
				for _, g := range later {
					task := full()
					g.make(&task) // before the other one, which may take away what it needs
					f.make(&task)
					refuses(t, task, f, f.name, g.name)
				}
			}
		}
	}
}

// P5.1
func TestCheckTakesWhatIsAllowed(t *testing.T) {
	for i, change := range []func(t *api.LoTask){
		func(t *api.LoTask) {},
		func(t *api.LoTask) { *t = example() },
		func(t *api.LoTask) { t.Goal = api.LoSaving },
		func(t *api.LoTask) { t.Needs, t.Scene.Lamps, t.Scene.Uses = []api.LoNeed{}, []int{}, []api.LmUse{} },
		func(t *api.LoTask) { t.Needs, t.Scene.Surface, t.Scene.Road = nil, -1, api.RdScene{} },
		func(t *api.LoTask) { t.Sky, t.Window, t.Hours, t.PerKwh = 0, 0, 0, 0 },
		func(t *api.LoTask) { t.Sites = slices.Repeat(t.Sites[:3], 8) },
		func(t *api.LoTask) { t.Sites = t.Sites[:1] },
		func(t *api.LoTask) {
			t.Poles, t.Lamps, t.Levels = slices.Repeat(t.Poles[:2], 2), slices.Repeat(t.Lamps, 2), t.Levels[:2]
		}, // 256 layouts
		func(t *api.LoTask) { t.Levels, t.Lamps, t.Steps = []int{1, 2, 3, 1000}, t.Lamps[:1], 4 },
		func(t *api.LoTask) { t.Needs[0].Class.Kind, t.Needs[2].Class.Glare = api.LtBright, api.MaxGlare },
		func(t *api.LoTask) {
			t.Scene.Catalog.Lamps[0].Lumens, t.Scene.Catalog.Tables[0].Sky = 10001, api.MaxIntensity
		}, // too bright
	} {
		task := full()
		change(&task)
		if part, at, e := Check(task); part != 0 || at != 0 || e != api.OK {
			t.Errorf("task %d: %d, %d, %d", i, part, at, e)
		}
	}
}

// P5.1: as many layouts as there may be, and one step more.
func TestCheckCountsLayouts(t *testing.T) {
	for _, c := range []struct {
		poles, lamps, levels, steps int
		e                           api.Errno
	}{{4, 4, 4, 1, api.OK}, {4, 4, 1, 4, api.OK}, {4, 1, 4, 4, api.OK}, {1, 4, 4, 4, api.OK}, {2, 2, 4, 4, api.OK}, {4, 4, 4, 2, api.ErrLong}, {3, 3, 3, 3, api.ErrLong}, {4, 4, 2, 3, api.ErrLong}, {2, 3, 4, 3, api.ErrLong}, {4, 4, 4, 4, api.ErrLong}, {2, 3, 3, 3, api.OK}} {
		task := full()
		task.Poles, task.Lamps, task.Levels, task.Steps = slices.Repeat(task.Poles[:1], c.poles), slices.Repeat(task.Lamps[:1], c.lamps), []int{1, 2, 3, 4}[:c.levels], c.steps
		if _, _, e := Check(task); e != c.e {
			t.Errorf("Check with %v: %d", c, e)
		}
		if all, e := All(task); e != c.e || e == api.OK && len(all) != 4*c.poles*c.lamps*c.levels*c.steps {
			t.Errorf("All with %v: %d, %d", c, len(all), e)
		}
	}
}
