package layout

import (
	"errors"
	"math"
	"math/rand"
	"slices"
	"testing"

	"linkboy/api"
)

// certified returns a random task that can be met, with a certificate of at least three reasons.
func certified(r *rand.Rand) (api.LoTask, api.LoFound) {
	for {
		t := randomTask(r)
		if f, e := Best(t); e == api.OK && len(f.Reasons) >= 3 {
			return t, f
		}
	}
}

// noReason is a reason that holds for no layout.
var noReason = api.LoReason{Kind: api.LoSky, Need: 1}

// P5.4: no layout does.
func TestBestOfNone(t *testing.T) {
	for i, change := range []func(t *api.LoTask){
		func(t *api.LoTask) { t.Sky = 0 },
		func(t *api.LoTask) {
			t.Needs = []api.LoNeed{{Class: api.LtClass{Kind: api.LtLux, Least: 1, Step: 5000, DX: 1}}}
		},
		func(t *api.LoTask) { t.Scene.Catalog.Tables[0].Side, t.Scene.Catalog.Lamps[0].Lumens = 10000000, 10001 },
	} {
		task := example()
		change(&task)
		if got, e := Best(task); got.Layout != (api.LoLayout{}) || got.Value != 0 || len(got.Reasons) != 0 || e != api.ErrDown {
			t.Errorf("Best of task %d = %v, %d", i, got, e)
		}
		if got, e := Trade(task); len(got) != 0 || e != api.OK {
			t.Errorf("Trade of task %d = %v, %d", i, got, e)
		}
		if got, e := Lowest(task, api.LoLayout{Level: 1, Step: 1, Sides: api.LoBoth}); got != 0 || e != api.ErrDown {
			t.Errorf("Lowest of task %d = %d, %d", i, got, e)
		}
		var u unmet
		if _, err := best(&task); !errors.As(err, &u) || u.tried != 16 || u.Error() != "none of 16 layouts does" {
			t.Errorf("the error of task %d: %v", i, err)
		}
		if _, err := lowest(&task, api.LoLayout{Step: 1, Sides: api.LoBoth}); !errors.As(err, &u) || u.tried != 2 {
			t.Errorf("the error of task %d at all levels: %v", i, err)
		}
	}
}

// P5.4, P5.5: of layouts with the same value the first one is the best, and those before it are better.
func TestLayoutsOfTheSameValue(t *testing.T) {
	task := example()
	task.Hours, task.Poles, task.Lamps[0].Price = 0, []api.LoPole{{Height: 80}, {Height: 60}}, 0 // all are free
	task.Sky = 39                                                                                // for one column at the level 500
	got, e := Best(task)
	sky := api.LoReason{Kind: api.LoSky}
	if want := (api.LoLayout{Step: 1, Sides: api.LoRight}); got.Layout != want || got.Value != 0 || !slices.Equal(got.Reasons, []api.LoReason{sky}) || e != api.OK {
		t.Errorf("Best = %v, %d", got, e)
	}
	later := api.LoFound{Layout: api.LoLayout{Pole: 1, Step: 1, Sides: api.LoRight}, Reasons: slices.Repeat([]api.LoReason{sky}, 9)}
	if at, e := Accept(task, later); at != 1 || e != api.LoErrReason {
		t.Errorf("Accept(%v) = %d, %d", later, at, e)
	}
}

// P5.4, P5.5: layouts that cannot be built have the value 0: all of them are better than one that costs something, and those before one that costs nothing.
func TestLayoutsThatCannotBeBuilt(t *testing.T) {
	task := example()
	task.Sites = task.Sites[2:] // on the right alone
	wrong := api.LoReason{Kind: api.LoWrong}
	got, e := Best(task)
	if want := (api.LoLayout{Pole: 1, Step: 1, Sides: api.LoRight}); got.Layout != want || got.Value != 1618 || !slices.Equal(got.Reasons, []api.LoReason{wrong, wrong, wrong, wrong}) || e != api.OK {
		t.Errorf("Best = %v, %d", got, e)
	}
	task.Hours, task.Poles[0].Price, task.Lamps[0].Price = 0, 0, 0
	got, e = Best(task)
	if want := (api.LoLayout{Step: 1, Sides: api.LoRight}); got.Layout != want || got.Value != 0 || !slices.Equal(got.Reasons, []api.LoReason{wrong}) || e != api.OK {
		t.Errorf("Best = %v, %d", got, e)
	}
	if at, e := Accept(task, got); at != 0 || e != api.OK {
		t.Errorf("Accept(%v) = %d, %d", got, at, e)
	}
	if at, e := Accept(task, api.LoFound{Layout: api.LoLayout{Step: 1, Sides: api.LoLeft}}); at != -1 || e != api.LoErrWhy {
		t.Errorf("Accept of a layout that cannot be built = %d, %d", at, e)
	}
	if at, e := Accept(task, api.LoFound{Layout: api.LoLayout{Step: 1, Sides: api.LoLeft}, Value: 1}); at != -1 || e != api.LoErrValue {
		t.Errorf("Accept of a layout that cannot be built = %d, %d", at, e)
	}
}

// P5.5: the errors in their order.
func TestErrorsOfAccept(t *testing.T) {
	r := rand.New(rand.NewSource(505))
	for range 20 {
		task, f := certified(r)
		for _, l := range noLayouts() {
			got := api.LoFound{Layout: l, Value: f.Value + 1, Reasons: []api.LoReason{noReason}}
			if at, e := Accept(task, got); !isLayout(&task, l) && (at != -1 || e != api.ErrNone) {
				t.Errorf("Accept with the layout %v = %d, %d", l, at, e)
			}
		}
		for _, value := range []int{f.Value - 1, f.Value + 1, 0, math.MinInt, math.MaxInt} {
			got := api.LoFound{Layout: f.Layout, Value: value, Reasons: []api.LoReason{noReason}}
			if at, e := Accept(task, got); value != f.Value && (at != -1 || e != api.LoErrValue) {
				t.Errorf("Accept with the value %d = %d, %d", value, at, e)
			}
		}
		for _, reasons := range [][]api.LoReason{nil, {noReason}, f.Reasons[1:], slices.Concat(f.Reasons, f.Reasons[:1]), slices.Repeat(f.Reasons, 100)} {
			got := api.LoFound{Layout: f.Layout, Value: f.Value, Reasons: reasons}
			if at, e := Accept(task, got); len(reasons) != len(f.Reasons) && (at != -1 || e != api.LoErrCount) {
				t.Errorf("Accept with %d reasons for %d = %d, %d", len(reasons), len(f.Reasons), at, e)
			}
		}
		for first := range f.Reasons {
			got := api.LoFound{Layout: f.Layout, Value: f.Value, Reasons: slices.Clone(f.Reasons)}
			got.Reasons[first], got.Reasons[len(f.Reasons)-1] = noReason, api.LoReason{}
			if at, e := Accept(task, got); e != api.LoErrReason || at != first {
				t.Errorf("Accept with a wrong reason %d = %d, %d", first, at, e)
			}
		}
		for l := range layouts(&task) {
			got := api.LoFound{Layout: l, Value: wantValue(task, l), Reasons: []api.LoReason{noReason}}
			if at, e := Accept(task, got); wantWhy(task, l) != (api.LoReason{}) && (at != -1 || e != api.LoErrWhy) {
				t.Errorf("Accept with a layout that does not do = %d, %d", at, e)
			}
			got.Value++
			if at, e := Accept(task, got); at != -1 || e != api.LoErrValue {
				t.Errorf("Accept with another value = %d, %d", at, e)
			}
		}
	}
}

// P5.6: layouts of the same cost and power, and some that another one beats in one of the two.
func TestTrade(t *testing.T) {
	task := example()
	task.PerKwh = 0
	task.Lamps = []api.LoLamp{{Price: 900}, {Lamp: 1, Price: 500}, {Lamp: 1, Price: 500}}
	saving := task.Scene.Catalog.Lamps[0]
	saving.Name, saving.Power = "cheap", 100000
	task.Scene.Catalog.Lamps = append(task.Scene.Catalog.Lamps, saving)
	task.Levels = []int{1000}
	right := func(pole, lamp int) api.LoLayout {
		return api.LoLayout{Pole: pole, Lamp: lamp, Step: 1, Sides: api.LoRight}
	}
	for i, c := range []struct {
		change func()
		want   []api.LoLayout
	}{
		{func() {}, []api.LoLayout{right(1, 0), right(1, 1)}},
		{func() { task.Poles[0].Price = 800 }, []api.LoLayout{right(0, 0), right(0, 1)}},
		{func() { task.Poles[0].Price = 799 }, []api.LoLayout{right(0, 0), right(0, 1)}},
		{func() { task.Lamps[2].Price = 499 }, []api.LoLayout{right(0, 0), right(0, 2)}},
		{func() { task.Lamps[0].Price = 498 }, []api.LoLayout{right(0, 0)}},
		{func() { task.Lamps[0].Price = 499 }, []api.LoLayout{right(0, 0)}},
		{func() { task.Sky = 39 }, nil},
	} {
		c.change()
		if got, e := Trade(task); !slices.Equal(got, c.want) || e != api.OK {
			t.Errorf("Trade of task %d = %v, %d, want %v", i, got, e, c.want)
		}
	}
}

// P5.6: a higher level is the lowest one if the road is too dark below it, and none if the sky is too bright with it.
func TestLowestLevels(t *testing.T) {
	task, l := street()
	task.Levels, l.Level = []int{500, 700, 1000}, 2
	for _, c := range []struct {
		sky, level int
		e          api.Errno
	}{{task.Sky, 2, api.OK}, {task.Sky - 1, 0, api.ErrDown}} {
		task.Sky = c.sky
		for l.Level = range 3 {
			if got, e := Lowest(task, l); got != c.level || e != c.e {
				t.Errorf("Lowest(%v) with Sky %d = %d, %d, want %d, %d", l, c.sky, got, e, c.level, c.e)
			}
		}
	}
	task.Needs = nil
	if got, e := Lowest(task, api.LoLayout{Level: 2, Step: 1, Sides: api.LoBoth}); got != 0 || e != api.OK {
		t.Errorf("Lowest without needs = %d, %d", got, e)
	}
}
