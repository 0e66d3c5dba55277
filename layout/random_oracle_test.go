package layout

import (
	"math/rand"
	"reflect"
	"slices"
	"testing"

	"linkboy/api"
)

// P5.1, P5.2, P5.3: all layouts of random tasks, their scenes, values and reasons.
func TestLayoutsOfRandomTasks(t *testing.T) {
	r := rand.New(rand.NewSource(503))
	kinds := map[int]int{}
	for range 150 {
		task := randomTask(r)
		all, e := All(task)
		if !slices.Equal(all, wantLayouts(task)) || e != api.OK {
			t.Fatalf("All(%v) = %v, %d", task, all, e)
		}
		for range 12 {
			l := all[r.Intn(len(all))]
			kinds[checkLayout(t, task, l)]++
		}
	}
	for kind := api.LoNothing; kind <= api.LoGlare; kind++ {
		if kinds[kind] < 10 {
			t.Errorf("%d layouts with the reason %d", kinds[kind], kind)
		}
	}
}

// checkLayout compares what is said of a layout with what the document says, and returns the kind of the reason why it does not do.
func checkLayout(t *testing.T, task api.LoTask, l api.LoLayout) int {
	t.Helper()
	scene, e := Build(task, l)
	want := wantScene(task, l)
	switch {
	case wantWrong(want):
		if !reflect.DeepEqual(scene, api.LtScene{}) || e != api.ErrDown {
			t.Fatalf("Build(%v, %v) = %v, %d", task, l, scene, e)
		}
	case !reflect.DeepEqual(scene, want) || e != api.OK:
		t.Fatalf("Build(%v, %v) = %v, %d, want %v", task, l, scene, e, want)
	}
	if value, e := Value(task, l); value != wantValue(task, l) || e != api.OK {
		t.Fatalf("Value(%v, %v) = %d, %d, want %d", task, l, value, e, wantValue(task, l))
	}
	why, e := Why(task, l)
	if why != wantWhy(task, l) || e != api.OK {
		t.Fatalf("Why(%v, %v) = %v, %d, want %v", task, l, why, e, wantWhy(task, l))
	}
	return why.Kind
}

// P5.4, P5.5, P5.6: what is found for random tasks.
func TestSearchesOfRandomTasks(t *testing.T) {
	r := rand.New(rand.NewSource(504))
	found, down, reasons, traded := 0, 0, 0, 0
	for range 150 {
		task := randomTask(r)
		got, e := Best(task)
		want, is := wantBest(task)
		wantError := api.OK
		if !is {
			wantError = api.ErrDown
			down++
		} else {
			found++
			reasons += len(want.Reasons)
		}
		if got.Layout != want.Layout || got.Value != want.Value || !slices.Equal(got.Reasons, want.Reasons) || e != wantError {
			t.Fatalf("Best(%v) = %v, %d, want %v", task, got, e, want)
		}
		trade, e := Trade(task)
		if !slices.Equal(trade, wantTrade(task)) || e != api.OK {
			t.Fatalf("Trade(%v) = %v, %d, want %v", task, trade, e, wantTrade(task))
		}
		if len(trade) > 1 {
			traded++
		}
	}
	if found < 50 || down < 20 || reasons < 300 || traded < 10 {
		t.Errorf("%d tasks that can be met with %d reasons, %d that cannot, %d with a trade", found, reasons, down, traded)
	}
}

// P5.6
func TestLowestOfRandomTasks(t *testing.T) {
	r := rand.New(rand.NewSource(506))
	found := map[int]int{}
	for range 1500 {
		task := randomTask(r)
		l := randomLayout(r, &task)
		got, e := Lowest(task, l)
		want, wantError := 0, api.ErrDown
		for level := len(task.Levels) - 1; level >= 0; level-- {
			l.Level = level
			if wantWhy(task, l) == (api.LoReason{}) {
				want, wantError = level, api.OK
			}
		}
		if got != want || e != wantError {
			t.Fatalf("Lowest(%v, %v) = %d, %d, want %d, %d", task, l, got, e, want, wantError)
		}
		if e != api.OK {
			got = -1
		}
		found[got]++
	}
	if found[-1] < 20 || found[0] < 20 || found[1] < 20 || found[2] < 10 {
		t.Errorf("lowest levels: %v", found)
	}
}
