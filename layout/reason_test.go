package layout

import (
	"math"
	"math/rand"
	"slices"
	"testing"

	"linkboy/api"
	"linkboy/light"
	"linkboy/road"
)

// street returns a task with a road that one column lights from the left and one from the right, in front of two houses: what it asks for, its first layout does just about.
func street() (api.LoTask, api.LoLayout) {
	t, l := example(), api.LoLayout{Level: 1, Step: 1, Sides: api.LoBoth}
	table := &t.Scene.Catalog.Tables[0]
	table.Us, table.Vs, table.Values = []int{-5000, 5000}, []int{-5000, 5000}, [][]int{{900, 500}, {700, 600}}
	t.Scene.Road.Roads = []api.RdRoad{{Name: "a", Points: [][2]int{{-8000, 1000}, {8000, 1000}}, Width: 1000}, {Name: "b", Points: [][2]int{{-7000, -3000}, {11000, -3000}}, Width: 1000}}
	t.Scene.Road.Fronts = []api.RdFront{
		{A: [2]int{9000, 5000}, B: [2]int{-9000, 5000}, Windows: []api.RdWindow{{To: 1000, High: 30}, {From: 200, To: 300, High: 30}}},
		{A: [2]int{-9000, -9000}, B: [2]int{9000, -9000}, Windows: []api.RdWindow{{From: 100, To: 1000, High: 30}}},
	}
	t.Sites = []api.LoSite{{Y: 2000, DY: -1}, {Right: true, X: 3000, Y: -2000, DY: 1}}
	t.Needs = []api.LoNeed{{Road: 1, Class: api.LtClass{Kind: api.LtLux, Step: 2000, DX: 1}}, {Road: 0, Class: api.LtClass{Kind: api.LtBright, Step: 2000, DX: 1}}}
	s := sceneOf(&t, l)
	t.Sky, _ = light.Sky(s)
	t.Window = windowOf(s, 0, 0)
	for i, n := range t.Needs {
		r, _ := light.Judge(s, n.Road, n.Class)
		c := &t.Needs[i].Class
		c.Average, c.Least, c.Uniform, c.Glare = r.Average.Lo, r.Least.Lo, r.Uniform, r.Glare
	}
	return t, l
}

func windowOf(s api.LtScene, front, window int) int {
	most, _ := light.Window(s, front, window)
	return most
}

// P5.3: what a layout does just about, and the reason if it does just not.
func TestReasonsAtTheirLimits(t *testing.T) {
	task, l := street()
	s := sceneOf(&task, l)
	worst := [2]int{}
	for i, n := range task.Needs {
		r, _ := light.Judge(s, n.Road, n.Class)
		worst[i] = r.Worst
		if r.Average.Lo == 0 || r.Least.Lo == 0 || r.Uniform == 0 || r.Worst == 0 || (n.Class.Kind == api.LtBright && r.Glare < 2) {
			t.Fatalf("the light of need %d: %v", i, r)
		}
	}
	first, second, other := windowOf(s, 0, 0), windowOf(s, 0, 1), windowOf(s, 1, 0)
	if first <= second || second <= other || other == 0 {
		t.Fatalf("the light on windows: %d, %d, %d", first, second, other)
	}
	for i, c := range []struct {
		change func(t *api.LoTask)
		want   api.LoReason
	}{
		{func(t *api.LoTask) {}, api.LoReason{}},
		{func(t *api.LoTask) { t.Sky-- }, api.LoReason{Kind: api.LoSky}},
		{func(t *api.LoTask) { t.Window-- }, api.LoReason{Kind: api.LoWindow}},
		{func(t *api.LoTask) { t.Window = 0 }, api.LoReason{Kind: api.LoWindow}},
		{func(t *api.LoTask) {
			t.Window, t.Scene.Road.Fronts[0].Windows[0] = second-1, api.RdWindow{To: 1, Low: 999, High: 1000}
		}, api.LoReason{Kind: api.LoWindow, Window: 1}},
		{func(t *api.LoTask) { t.Window, t.Scene.Road.Fronts[0].Windows = other, nil }, api.LoReason{}},
		{func(t *api.LoTask) { t.Window, t.Scene.Road.Fronts[0].Windows = other-1, nil }, api.LoReason{Kind: api.LoWindow, Front: 1}},
		{func(t *api.LoTask) { t.Needs[0].Class.Least++ }, api.LoReason{Kind: api.LoLeast, Patch: worst[0]}},
		{func(t *api.LoTask) { t.Needs[1].Class.Least++ }, api.LoReason{Kind: api.LoLeast, Need: 1, Patch: worst[1]}},
		{func(t *api.LoTask) { t.Needs[0].Class.Average++ }, api.LoReason{Kind: api.LoAverage}},
		{func(t *api.LoTask) { t.Needs[1].Class.Average++ }, api.LoReason{Kind: api.LoAverage, Need: 1}},
		{func(t *api.LoTask) { t.Needs[0].Class.Uniform++ }, api.LoReason{Kind: api.LoUniform}},
		{func(t *api.LoTask) { t.Needs[1].Class.Uniform++ }, api.LoReason{Kind: api.LoUniform, Need: 1}},
		{func(t *api.LoTask) { t.Needs[1].Class.Glare-- }, api.LoReason{Kind: api.LoGlare, Need: 1}},
		{func(t *api.LoTask) {
			t.Scene.Catalog.Lamps[0].Lumens, t.Scene.Catalog.Tables[0].Side = 10001, api.MaxIntensity
		}, api.LoReason{Kind: api.LoWrong}},
	} {
		task, l := street()
		c.change(&task)
		if got, e := Why(task, l); got != c.want || e != api.OK {
			t.Errorf("Why after change %d = %v, %d, want %v", i, got, e, c.want)
		}
		if holds, e := Holds(task, l, c.want); holds != (c.want.Kind != api.LoNothing) || e != api.OK {
			t.Errorf("Holds(%v) after change %d = %v, %d", c.want, i, holds, e)
		}
	}
}

// P5.3: of several reasons the first one is given.
func TestOrderOfReasons(t *testing.T) {
	first := []struct {
		change func(t *api.LoTask)
		want   api.LoReason
	}{
		{func(t *api.LoTask) {
			t.Scene.Catalog.Lamps[0].Lumens, t.Scene.Catalog.Tables[0].Sky = 10001, api.MaxIntensity
		}, api.LoReason{Kind: api.LoWrong}},
		{func(t *api.LoTask) { t.Sky-- }, api.LoReason{Kind: api.LoSky}},
		{func(t *api.LoTask) { t.Window-- }, api.LoReason{Kind: api.LoWindow}},
		{func(t *api.LoTask) { t.Needs[0].Class.Least++ }, api.LoReason{Kind: api.LoLeast}},
		{func(t *api.LoTask) { t.Needs[0].Class.Average++ }, api.LoReason{Kind: api.LoAverage}},
		{func(t *api.LoTask) { t.Needs[0].Class.Uniform++ }, api.LoReason{Kind: api.LoUniform}},
		{func(t *api.LoTask) { t.Needs[1].Class.Least++ }, api.LoReason{Kind: api.LoLeast, Need: 1}},
		{func(t *api.LoTask) { t.Needs[1].Class.Average++ }, api.LoReason{Kind: api.LoAverage, Need: 1}},
		{func(t *api.LoTask) { t.Needs[1].Class.Uniform++ }, api.LoReason{Kind: api.LoUniform, Need: 1}},
		{func(t *api.LoTask) { t.Needs[1].Class.Glare-- }, api.LoReason{Kind: api.LoGlare, Need: 1}},
	}
	for i := range first {
		task, l := street()
		for _, c := range first[i:] {
			c.change(&task)
		}
		got, e := Why(task, l)
		got.Patch = 0
		if got != first[i].want || e != api.OK {
			t.Errorf("Why after all changes from %d on = %v, %d, want %v", i, got, e, first[i].want)
		}
	}
}

// P5.3: a layout without columns is wrong, and nothing else of it holds.
func TestNoColumns(t *testing.T) {
	task := example()
	task.Sites = task.Sites[2:]
	task.Needs = []api.LoNeed{{Class: api.LtClass{Kind: api.LtLux, Average: 1000000, Least: 1, Uniform: 1, Step: 5000, DX: 1}}}
	for _, c := range []struct {
		sides int
		want  api.LoReason
	}{{api.LoLeft, api.LoReason{Kind: api.LoWrong}}, {api.LoRight, api.LoReason{Kind: api.LoLeast}}, {api.LoBoth, api.LoReason{Kind: api.LoLeast}}, {api.LoZigzag, api.LoReason{Kind: api.LoLeast}}} {
		l := api.LoLayout{Step: 1, Sides: c.sides}
		if got, e := Why(task, l); got.Kind != c.want.Kind || e != api.OK {
			t.Errorf("Why(%v) = %v, %d, want %v", l, got, e, c.want)
		}
		isWrong := c.want.Kind == api.LoWrong
		for kind := api.LoWrong; kind <= api.LoGlare; kind++ {
			want := kind == api.LoWrong && isWrong || !isWrong && (kind == api.LoLeast || kind == api.LoAverage || kind == api.LoUniform)
			if holds, e := Holds(task, l, api.LoReason{Kind: kind}); holds != want || e != api.OK {
				t.Errorf("Holds(%v, %d) = %v, %d", l, kind, holds, e)
			}
		}
		if scene, e := Build(task, l); (e == api.ErrDown) != isWrong || (e == api.OK) == isWrong || isWrong && len(scene.Road.Roads) != 0 {
			t.Errorf("Build(%v) = %v, %d", l, scene, e)
		}
		if value, e := Value(task, l); (value == 0) != isWrong || e != api.OK {
			t.Errorf("Value(%v) = %d, %d", l, value, e)
		}
	}
}

// reasonsAround yields reasons of all kinds, with indices that there are and that there are not.
func reasonsAround(task *api.LoTask, patches int) func(yield func(api.LoReason) bool) {
	numbers := []int{-1, 0, 1, 2}
	return func(yield func(api.LoReason) bool) {
		for kind := -1; kind <= api.LoGlare+1; kind++ {
			for _, need := range numbers {
				for patch := -1; patch <= patches; patch++ {
					for _, front := range numbers {
						for _, window := range numbers {
							if !yield(api.LoReason{Kind: kind, Need: need, Patch: patch, Front: front, Window: window}) {
								return
							}
						}
					}
				}
			}
		}
	}
}

// P5.3: exactly those reasons hold that the document says, whose indices are as stated.
func TestHoldsOfRandomTasks(t *testing.T) {
	r := rand.New(rand.NewSource(513))
	held := map[int]int{}
	for range 12 {
		task := randomTask(r)
		l := randomLayout(r, &task)
		patches := 0
		for _, n := range task.Needs {
			patches = max(patches, len(wantPatches(task, n)))
		}
		want := wantReasons(task, l)
		d := newDraft(&task, l)
		for reason := range reasonsAround(&task, patches) {
			if got := d.holds(reason); got != slices.Contains(want, reason) {
				t.Fatalf("%v, %v: %v holds: %v, want %v", task, l, reason, got, want)
			}
		}
		for _, reason := range want {
			held[reason.Kind]++
			if holds, e := Holds(task, l, reason); !holds || e != api.OK {
				t.Fatalf("Holds(%v, %v, %v) = %v, %d", task, l, reason, holds, e)
			}
		}
	}
	if len(held) < api.LoGlare {
		t.Errorf("reasons that held, by kinds: %v", held)
	}
}

// P5.3: kinds and indices that there are not.
func TestReasonsThatAreNone(t *testing.T) {
	task, l := street()
	task.Sky, task.Window = 0, 0
	for i := range task.Needs {
		c := &task.Needs[i].Class
		c.Average, c.Least, c.Uniform, c.Glare = 1000000000, 1000000000, 1000, 0
	}
	for _, n := range []int{-1, 3, 8, 100, math.MinInt, math.MaxInt} {
		for _, r := range []api.LoReason{
			{Kind: n}, {Kind: api.LoSky, Need: n}, {Kind: api.LoSky, Patch: n}, {Kind: api.LoSky, Front: n}, {Kind: api.LoSky, Window: n},
			{Kind: api.LoWindow, Front: n}, {Kind: api.LoWindow, Window: n}, {Kind: api.LoWindow, Need: n}, {Kind: api.LoWindow, Patch: n},
			{Kind: api.LoLeast, Need: n}, {Kind: api.LoLeast, Front: n}, {Kind: api.LoLeast, Window: n},
			{Kind: api.LoAverage, Need: n}, {Kind: api.LoAverage, Patch: n}, {Kind: api.LoAverage, Front: n}, {Kind: api.LoUniform, Need: n}, {Kind: api.LoUniform, Patch: n}, {Kind: api.LoGlare, Need: n}, {Kind: api.LoGlare, Window: n},
		} {
			if n == 3 && r.Kind == n {
				continue
			}
			if holds, e := Holds(task, l, r); holds || e != api.OK {
				t.Errorf("Holds(%v) = %v, %d", r, holds, e)
			}
		}
	}
	for _, r := range []api.LoReason{{}, {Need: 1}, {Kind: api.LoWrong}, {Kind: api.LoLeast, Patch: -1}, {Kind: api.LoLeast, Patch: len(wantPatches(task, task.Needs[0]))}, {Kind: api.LoLeast, Patch: math.MaxInt}} {
		if holds, e := Holds(task, l, r); holds || e != api.OK {
			t.Errorf("Holds(%v) = %v, %d", r, holds, e)
		}
	}
}

// P5.3: patches are counted without those that have no places, as light does it.
func TestPatchesAtTheEnd(t *testing.T) {
	for _, x := range []int{-100000, 100000} {
		task, l := street()
		task.Scene.Road.Roads[0].Points = [][2]int{{x, -1000}, {x, 1000}}
		task.Scene.Road.Roads[0].Width = 21000
		task.Sites = []api.LoSite{{X: x, DX: 1}}
		task.Needs = []api.LoNeed{{Class: api.LtClass{Kind: api.LtLux, Least: 10, Step: 10000, DX: 1}}}
		task.Sky, task.Window = math.MaxInt, math.MaxInt
		s := sceneOf(&task, l)
		r, _ := light.Judge(s, 0, task.Needs[0].Class)
		for patch := range r.Patches + 1 {
			want := patch < r.Patches && wantOf(s, task.Needs[0].Class, wantPatches(task, task.Needs[0])[patch]).Lo < 10
			if holds, e := Holds(task, l, api.LoReason{Kind: api.LoLeast, Patch: patch}); holds != want || e != api.OK {
				t.Errorf("the patch %d of %d at %d holds: %v, %d", patch, r.Patches, x, holds, e)
			}
		}
		if all, _ := road.Patches(s.Road, 0, 10000); len(all) <= r.Patches || r.Least.Lo >= 10 {
			t.Errorf("%d patches at %d, %v", len(all), x, r)
		}
		if why, e := Why(task, l); why != (api.LoReason{Kind: api.LoLeast, Patch: r.Worst}) || e != api.OK {
			t.Errorf("Why at %d = %v, %d, want the patch %d", x, why, e, r.Worst)
		}
	}
}
