package light

import (
	"math"
	"strings"
	"testing"

	"linkboy/api"
)

// fault is something that Check refuses.
type fault struct {
	name     string
	part, at int
	e        api.Errno
	make     func(s *api.LtScene)
}

// three returns a scene with three columns, the last one of which has the brightest lamp that there may be.
func three() api.LtScene {
	s := example()
	s.Catalog.Tables[1].Values[1][1], s.Catalog.Tables[1].Side = api.MaxReflect, api.MaxReflect
	bright, lamp := s.Catalog.Tables[0], s.Catalog.Lamps[0]
	bright.Name, lamp.Name = "bright", "bright"
	bright.Values = [][]int{{0, 0}, {api.MaxIntensity, 0}, {0, 0}}
	lamp.Table, lamp.Lumens = 2, 10000
	s.Catalog.Tables, s.Catalog.Lamps = append(s.Catalog.Tables, bright), append(s.Catalog.Lamps, lamp)
	s.Road.Columns = append(s.Road.Columns, api.RdColumn{Name: "c2", Height: 1, DX: 1}, api.RdColumn{Name: "c3", Height: 1, DX: 1})
	s.Lamps = append(s.Lamps, -1, 1)
	s.Uses = append(s.Uses, api.LmUse{}, api.LmUse{Hours: api.MaxHours, Months: api.MaxMonths, Level: 1000})
	return s
}

// faults returns all kinds of faults, in lists of which an earlier one decides.
func faults() [][]fault {
	all := [][]fault{
		{
			{"a table without a name", 1, 0, api.ErrForm, func(s *api.LtScene) { s.Catalog.Tables[2].Name = "" }},
			{"a lamp without lumens", 1, 0, api.ErrRange, func(s *api.LtScene) { s.Catalog.Lamps[1].Lumens = 0 }},
			{"too many lamps", 1, 0, api.ErrLong, func(s *api.LtScene) { s.Catalog.Lamps = make([]api.LmLamp, 21) }},
		},
		{
			{"a column without a name", 2, 0, api.ErrForm, func(s *api.LtScene) { s.Road.Columns[2].Name = "" }},
			{"a column twice", 2, 0, api.ErrTwice, func(s *api.LtScene) { s.Road.Columns[2].Name = "c2" }},
			{"too many columns", 2, 0, api.ErrLong, func(s *api.LtScene) { s.Road.Columns = make([]api.RdColumn, 25) }},
		},
		{},
		{
			{"too great a reflectance", 3, 0, api.ErrRange, func(s *api.LtScene) { s.Catalog.Tables[1].Values[1][1]++ }},
			{"too great a first reflectance", 3, 0, api.ErrRange, func(s *api.LtScene) { s.Catalog.Tables[1].Values[0][0] = 10001 }},
			{"too great a reflectance beside", 3, 0, api.ErrRange, func(s *api.LtScene) { s.Catalog.Tables[1].Side++ }},
		},
		{
			{"no lamps", 4, 0, api.ErrArg, func(s *api.LtScene) { s.Lamps = nil }},
			{"a lamp too few", 4, 0, api.ErrArg, func(s *api.LtScene) { s.Lamps = s.Lamps[:2] }},
			{"a lamp too many", 4, 0, api.ErrArg, func(s *api.LtScene) { s.Lamps = append(s.Lamps, 0) }},
			{"no uses", 4, 0, api.ErrArg, func(s *api.LtScene) { s.Uses = nil }},
			{"a use too few", 4, 0, api.ErrArg, func(s *api.LtScene) { s.Uses = s.Uses[:2] }},
			{"a use too many", 4, 0, api.ErrArg, func(s *api.LtScene) { s.Uses = append(s.Uses, api.LmUse{}) }},
		},
	}
	for _, surface := range []int{-2, 3, math.MinInt, math.MaxInt} {
		all[2] = append(all[2], fault{"no such surface", 3, 0, api.ErrNone, func(s *api.LtScene) { s.Surface = surface }})
	}
	for _, at := range []int{1, 2} {
		all = append(all, lampFaults(at), useFaults(at))
	}
	return all
}

func lampFaults(at int) (all []fault) {
	for _, lamp := range []int{-2, 2, math.MinInt, math.MaxInt} {
		all = append(all, fault{"no such lamp", 4, at, api.ErrNone, func(s *api.LtScene) { s.Lamps[at] = lamp }})
	}
	return all
}

func useFaults(at int) (all []fault) {
	for _, u := range []api.LmUse{{Hours: -1}, {Hours: 200001}, {Months: -1}, {Months: 601}, {Level: -1}, {Level: 1001}, {Hours: math.MaxInt}, {Months: math.MinInt}, {Level: math.MaxInt}} {
		all = append(all, fault{"a use beyond its range", 4, at, api.ErrRange, func(s *api.LtScene) { s.Uses[at] = u }})
	}
	brighter := func(name string, change func(t *api.LmTable, l *api.LmLamp)) {
		all = append(all, fault{name, 4, at, api.ErrRange, func(s *api.LtScene) {
			s.Lamps[2], s.Lamps[at] = -1, 1
			change(&s.Catalog.Tables[2], &s.Catalog.Lamps[1])
		}})
	}
	brighter("too many lumens", func(t *api.LmTable, l *api.LmLamp) { l.Lumens, t.Values[1][0] = 10001, api.MaxIntensity })
	brighter("just one too bright", func(t *api.LmTable, l *api.LmLamp) { l.Lumens, t.Values[1][0] = 96569, 1035529 })
	brighter("too bright a side", func(t *api.LmTable, l *api.LmLamp) { l.Lumens, t.Side = 100000, 1000001 })
	brighter("too bright a sky", func(t *api.LmTable, l *api.LmLamp) { l.Lumens, t.Values[1][0], t.Sky = 100000, 0, 1000001 })
	brighter("the brightest lamp of a catalogue", func(t *api.LmTable, l *api.LmLamp) {
		l.Lumens, t.Values[2][1] = api.MaxLumens, api.MaxIntensity
	})
	all = append(all, fault{"too bright a first lamp", 4, at, api.ErrRange, func(s *api.LtScene) {
		s.Lamps[0], s.Lamps[at] = -1, 0
		s.Catalog.Tables[0].Sky, s.Catalog.Lamps[0].Lumens = api.MaxIntensity, 10001
	}})
	return all
}

// refuses checks that Check says of a scene what a fault is.
func refuses(t *testing.T, s api.LtScene, want fault, names ...string) {
	t.Helper()
	if part, at, e := Check(s); part != want.part || at != want.at || e != want.e {
		t.Errorf("Check with %s = %d, %d, %d, want %d, %d, %d", strings.Join(names, " and "), part, at, e, want.part, want.at, want.e)
	}
}

// P4.1
func TestCheckFindsEachFault(t *testing.T) {
	for _, list := range faults() {
		for _, f := range list {
			s := three()
			f.make(&s)
			refuses(t, s, f, f.name)
		}
	}
}

// P4.1
func TestCheckTakesTheFirstFault(t *testing.T) {
	all := faults()
	for i, earlier := range all {
		for _, later := range all[i+1:] {
			for _, f := range earlier {
				for _, g := range later {
					s := three()
					g.make(&s) // before the other one, which may take away what it needs
					f.make(&s)
					refuses(t, s, f, f.name, g.name)
				}
			}
		}
	}
}

// P4.1
func TestCheckTakesWhatIsAllowed(t *testing.T) {
	for i, change := range []func(s *api.LtScene){
		func(s *api.LtScene) {},
		func(s *api.LtScene) { *s = example() },
		func(s *api.LtScene) { *s = bare() },
		func(s *api.LtScene) { *s = api.LtScene{Surface: -1} },
		func(s *api.LtScene) { *s = brightestScene() },
		func(s *api.LtScene) { s.Road.Columns, s.Lamps, s.Uses = nil, []int{}, []api.LmUse{} },
		func(s *api.LtScene) { s.Catalog.Tables[1].Sky = api.MaxIntensity },
		func(s *api.LtScene) { s.Surface, s.Catalog.Tables[1].Side = -1, api.MaxIntensity },
		func(s *api.LtScene) { s.Surface = 0 },                                    // also the table of a lamp
		func(s *api.LtScene) { s.Lamps[2], s.Catalog.Lamps[1].Lumens = 0, 10001 }, // too bright, but on no column
		func(s *api.LtScene) {
			s.Catalog.Lamps[1].Lumens, s.Catalog.Tables[2].Values[1][0] = 100000, 1000000
			s.Catalog.Tables[2].Side, s.Catalog.Tables[2].Sky = 1000000, 1000000
		},
	} {
		s := three()
		change(&s)
		if part, at, e := Check(s); part != 0 || at != 0 || e != api.OK {
			t.Errorf("scene %d: %d, %d, %d", i, part, at, e)
		}
	}
}

// P4.1: a scene without anything has the surface 0, which is none; one without columns has neither lamps nor uses.
func TestCheckRefusesScenesWithoutColumns(t *testing.T) {
	refuses(t, api.LtScene{}, fault{part: 3, e: api.ErrNone}, "nothing at all")
	s := three()
	s.Road.Columns = nil
	refuses(t, s, fault{part: 4, e: api.ErrArg}, "no columns")
}

// All functions but Check return the error of Check first, with zero results.
func TestErrorsOfCheckComeFirst(t *testing.T) {
	for _, list := range faults() {
		for _, f := range list {
			s := three()
			f.make(&s)
			frame, e1 := Frame(s, -1, api.RdPatch{X0: 1})
			lux, e2 := Lux(s, api.RdPatch{X0: 1})
			bright, e3 := Bright(s, api.RdPatch{X0: 1}, 0, 0)
			veil, e4 := Veil(s, api.LtView{})
			result, e5 := Judge(s, -1, api.LtClass{})
			accepted, e6 := Accept(s, -1, api.LtClass{})
			window, e7 := Window(s, -1, -1)
			sky, e8 := Sky(s)
			power, e9 := Power(s)
			for i, e := range []api.Errno{e1, e2, e3, e4, e5, e6, e7, e8, e9} {
				if e != f.e {
					t.Errorf("function %d with %s: %d, want %d", i, f.name, e, f.e)
				}
			}
			if (frame != api.LmRect{}) || (lux != api.Encl{}) || (bright != api.Encl{}) || (veil != api.Encl{}) || (result != api.LtResult{}) || accepted || window != 0 || sky != 0 || (power != api.Encl{}) {
				t.Errorf("results with %s", f.name)
			}
		}
	}
}
