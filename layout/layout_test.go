package layout

import (
	"math"
	"slices"
	"testing"

	"linkboy/api"
	"linkboy/lamp"
)

// catalogText is the catalogue of chapter 2, and the surface of chapter 4.
const catalogText = `table wide
us -1000 0 2000
vs -1000 1000
row 100 300
row 200 600
row 0 100
side 50
sky 5
table asphalt
us -5000 5000
vs -5000 5000
row 700 700
row 700 700
side 0
sky 0
lamp head wide led lumens 8000 power 60000 standing 500 tolerance 50 ageing 2..4 dirt 3..5 life 100000 dim 200 restrike 0
`

// example returns the task T of the document.
func example() api.LoTask {
	c, _, _ := lamp.Parse(catalogText)
	return api.LoTask{
		Scene: api.LtScene{
			Catalog: c,
			Surface: 1,
			Road:    api.RdScene{Roads: []api.RdRoad{{Name: "high", Kind: api.RdCarriage, Points: [][2]int{{0, 0}, {10000, 0}, {10000, 10000}}, Width: 4000}}},
		},
		Sites:  []api.LoSite{{DY: 1}, {X: 10000, DY: 1}, {Right: true, X: 5000, DY: 1}},
		Poles:  []api.LoPole{{Height: 80, Price: 1000}, {Height: 60, Price: 800}},
		Lamps:  []api.LoLamp{{Price: 500}},
		Levels: []int{500, 1000},
		Steps:  1,
		Sky:    200,
		Goal:   api.LoCheap,
		Hours:  1000,
		PerKwh: 10,
	}
}

// wrong returns a task that Check refuses with ErrTwice.
func wrong() api.LoTask {
	t := example()
	t.Scene.Catalog.Tables[1].Name = "wide"
	return t
}

// noLayouts returns layouts that are none of the example.
func noLayouts() (all []api.LoLayout) {
	for _, n := range []int{-1, 5, math.MinInt, math.MaxInt} {
		all = append(all,
			api.LoLayout{Pole: n, Step: 1, Sides: 1}, api.LoLayout{Lamp: n, Step: 1, Sides: 1}, api.LoLayout{Level: n, Step: 1, Sides: 1},
			api.LoLayout{Step: n, Sides: 1}, api.LoLayout{Step: 1, Sides: n},
		)
	}
	return append(all, api.LoLayout{}, api.LoLayout{Pole: 2, Step: 1, Sides: 1}, api.LoLayout{Lamp: 1, Step: 1, Sides: 1}, api.LoLayout{Level: 2, Step: 1, Sides: 1},
		api.LoLayout{Sides: 1}, api.LoLayout{Step: 2, Sides: 1}, api.LoLayout{Step: 1})
}

// P5.1
func TestAll(t *testing.T) {
	got, e := All(example())
	var want []api.LoLayout
	for _, choice := range [][2]int{{0, 0}, {0, 1}, {1, 0}, {1, 1}} {
		for _, sides := range []int{api.LoLeft, api.LoRight, api.LoBoth, api.LoZigzag} {
			want = append(want, api.LoLayout{Pole: choice[0], Level: choice[1], Step: 1, Sides: sides})
		}
	}
	if !slices.Equal(got, want) || len(got) != 16 || e != api.OK {
		t.Errorf("All = %v, %d", got, e)
	}
	if got, e := All(wrong()); len(got) != 0 || e != api.ErrTwice {
		t.Errorf("All of a wrong task = %v, %d", got, e)
	}
}

// P5.1: the order of layouts, as many of which there are as there may be.
func TestOrderOfAll(t *testing.T) {
	task := example()
	task.Poles = append(task.Poles, api.LoPole{Height: 200}, api.LoPole{Height: 1})
	task.Lamps = []api.LoLamp{{}, {}, {}, {}}
	task.Steps = 2
	got, e := All(task)
	var want []api.LoLayout
	for pole := range 4 {
		for lamp := range 4 {
			for level := range 2 {
				for step := range 2 {
					for side := range 4 {
						want = append(want, api.LoLayout{Pole: pole, Lamp: lamp, Level: level, Step: step + 1, Sides: side + 1})
					}
				}
			}
		}
	}
	if !slices.Equal(got, want) || len(got) != api.MaxLayouts || e != api.OK {
		t.Errorf("All = %v, %d", got, e)
	}
	if !slices.IsSortedFunc(got, inOrder) {
		t.Errorf("the layouts are not in their order: %v", got)
	}
}

// P5.2: the examples.
func TestValue(t *testing.T) {
	for _, c := range []struct {
		pole, level, sides int
		cost, power        int
	}{
		{0, 1, api.LoLeft, 4260, 126000}, {0, 1, api.LoRight, 2130, 63000}, {0, 1, api.LoBoth, 6390, 189000}, {0, 1, api.LoZigzag, 6390, 189000},
		{1, 0, api.LoRight, 1618, 31763}, {0, 0, api.LoRight, 1818, 31763}, {1, 0, api.LoLeft, 3236, 63526},
	} {
		task, l := example(), api.LoLayout{Pole: c.pole, Level: c.level, Step: 1, Sides: c.sides}
		if got, e := Value(task, l); got != c.cost || e != api.OK {
			t.Errorf("Value(%v) = %d, %d, want %d", l, got, e, c.cost)
		}
		task.Goal = api.LoSaving
		if got, e := Value(task, l); got != c.power || e != api.OK {
			t.Errorf("Value(%v) = %d, %d, want %d", l, got, e, c.power)
		}
	}
}

// P5.2: the greatest cost there is.
func TestGreatestValue(t *testing.T) {
	task := example()
	task.Scene.Catalog.Lamps[0].Power, task.Scene.Catalog.Lamps[0].Tolerance = api.MaxPower, 1000
	task.Sites = slices.Repeat([]api.LoSite{{DX: 1}}, api.MaxLoSites)
	task.Poles[0].Price, task.Lamps[0].Price = api.MaxPrice, api.MaxPrice
	task.Hours, task.PerKwh = api.MaxLoHours, api.MaxPerKwh
	if got, e := Value(task, api.LoLayout{Level: 1, Step: 1, Sides: api.LoBoth}); got != 24*200000000+24*10*1000000*10000 || e != api.OK {
		t.Errorf("Value = %d, %d", got, e)
	}
}

// P5.3: the examples.
func TestWhy(t *testing.T) {
	both := api.LoLayout{Level: 1, Step: 1, Sides: api.LoBoth}
	for _, c := range []struct {
		sky  int
		want api.LoReason
	}{{200, api.LoReason{}}, {120, api.LoReason{}}, {119, api.LoReason{Kind: api.LoSky}}, {0, api.LoReason{Kind: api.LoSky}}} {
		task := example()
		task.Sky = c.sky
		if got, e := Why(task, both); got != c.want || e != api.OK {
			t.Errorf("Why with Sky %d = %v, %d, want %v", c.sky, got, e, c.want)
		}
	}
}

// P5.4, P5.5: the examples.
func TestBest(t *testing.T) {
	for _, c := range []struct {
		goal   int
		layout api.LoLayout
		value  int
	}{{api.LoCheap, api.LoLayout{Pole: 1, Step: 1, Sides: api.LoRight}, 1618}, {api.LoSaving, api.LoLayout{Step: 1, Sides: api.LoRight}, 31763}} {
		task := example()
		task.Goal = c.goal
		got, e := Best(task)
		if got.Layout != c.layout || got.Value != c.value || len(got.Reasons) != 0 || e != api.OK {
			t.Errorf("Best for the goal %d = %v, %d", c.goal, got, e)
		}
		if at, e := Accept(task, got); at != 0 || e != api.OK {
			t.Errorf("Accept(%v) = %d, %d", got, at, e)
		}
	}
}

// P5.6: the example.
func TestLowest(t *testing.T) {
	if got, e := Lowest(example(), api.LoLayout{Level: 1, Step: 1, Sides: api.LoLeft}); got != 0 || e != api.OK {
		t.Errorf("Lowest = %d, %d", got, e)
	}
}

// P5.2 to P5.6: the error of Check comes first, then ErrNone.
func TestErrorsOfTasksAndLayouts(t *testing.T) {
	for _, l := range append(noLayouts(), api.LoLayout{Step: 1, Sides: 1}) {
		for _, c := range []struct {
			task api.LoTask
			e    api.Errno
			at   int
		}{{wrong(), api.ErrTwice, 0}, {api.LoTask{}, api.ErrNone, 0}, {example(), api.ErrNone, -1}} {
			if c.e == api.ErrNone && l == (api.LoLayout{Step: 1, Sides: 1}) {
				continue
			}
			if got, e := Build(c.task, l); len(got.Road.Roads)+len(got.Catalog.Tables)+len(got.Lamps)+got.Surface != 0 || e != c.e {
				t.Errorf("Build(%v) = %v, %d, want %d", l, got, e, c.e)
			}
			if got, e := Value(c.task, l); got != 0 || e != c.e {
				t.Errorf("Value(%v) = %d, %d, want %d", l, got, e, c.e)
			}
			if got, e := Why(c.task, l); got != (api.LoReason{}) || e != c.e {
				t.Errorf("Why(%v) = %v, %d, want %d", l, got, e, c.e)
			}
			if got, e := Holds(c.task, l, api.LoReason{Kind: api.LoSky}); got || e != c.e {
				t.Errorf("Holds(%v) = %v, %d, want %d", l, got, e, c.e)
			}
			if got, e := Lowest(c.task, l); got != 0 || e != c.e {
				t.Errorf("Lowest(%v) = %d, %d, want %d", l, got, e, c.e)
			}
			if at, e := Accept(c.task, api.LoFound{Layout: l}); at != c.at || e != c.e {
				t.Errorf("Accept(%v) = %d, %d, want %d, %d", l, at, e, c.at, c.e)
			}
		}
	}
	if got, e := Best(wrong()); got.Layout != (api.LoLayout{}) || got.Value != 0 || len(got.Reasons) != 0 || e != api.ErrTwice {
		t.Errorf("Best of a wrong task = %v, %d", got, e)
	}
	if got, e := Trade(wrong()); len(got) != 0 || e != api.ErrTwice {
		t.Errorf("Trade of a wrong task = %v, %d", got, e)
	}
}
