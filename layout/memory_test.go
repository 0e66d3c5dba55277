package layout

import (
	"encoding/json"
	"math"
	"math/rand"
	"reflect"
	"slices"
	"testing"

	"linkboy/api"
)

// separate returns a task that shares no memory with another one, and its lists without elements have room for some.
func separate(task api.LoTask) (t api.LoTask) {
	text, err := json.Marshal(task)
	if err == nil {
		err = json.Unmarshal(text, &t)
	}
	if err != nil {
		panic(err)
	}
	t.Scene.Road.Columns, t.Scene.Lamps, t.Scene.Uses = make([]api.RdColumn, 0, 30), make([]int, 0, 30), make([]api.LmUse, 0, 30)
	return t
}

// roomIsEmpty reports whether nothing was written behind the lists without elements.
func roomIsEmpty(s api.LtScene) bool {
	for _, c := range s.Road.Columns[:30] {
		if c != (api.RdColumn{}) {
			return false
		}
	}
	for i := range 30 {
		if s.Lamps[:30][i] != 0 || s.Uses[:30][i] != (api.LmUse{}) {
			return false
		}
	}
	return true
}

// P5.13
func TestTasksAreNotModified(t *testing.T) {
	r := rand.New(rand.NewSource(5130))
	for range 60 {
		task := separate(randomTask(r))
		was := separate(task)
		l := randomLayout(r, &task)
		Check(task)
		All(task)
		Build(task, l)
		Value(task, l)
		why, _ := Why(task, l)
		Holds(task, l, why)
		f, _ := Best(task)
		reasons := slices.Clone(f.Reasons)
		Accept(task, f)
		Trade(task)
		Lowest(task, l)
		if !reflect.DeepEqual(task, was) || !roomIsEmpty(task.Scene) || !slices.Equal(f.Reasons, reasons) {
			t.Fatalf("%v became %v", was, task)
		}
	}
}

// spoil changes all that is in the lists of a scene.
func spoil(s *api.LtScene) {
	for i := range s.Catalog.Tables {
		table := &s.Catalog.Tables[i]
		for _, list := range append(table.Values, table.Us, table.Vs) {
			for at := range list {
				list[at]++
			}
		}
		for at := range table.Values {
			table.Values[at] = nil
		}
		table.Name = ""
	}
	for i := range s.Catalog.Lamps {
		s.Catalog.Lamps[i].Name = ""
	}
	for i := range s.Road.Roads {
		for at := range s.Road.Roads[i].Points {
			s.Road.Roads[i].Points[at][0]++
		}
		s.Road.Roads[i].Name = ""
	}
	for i := range s.Road.Trees {
		s.Road.Trees[i].X++
	}
	for i := range s.Road.Fronts {
		for at := range s.Road.Fronts[i].Windows {
			s.Road.Fronts[i].Windows[at].Low++
		}
		s.Road.Fronts[i].A[0]++
	}
	for i := range s.Lamps {
		s.Lamps[i]++
		s.Uses[i].Hours++
		s.Road.Columns[i].X++
	}
}

// crowded returns a task whose scene has all there may be in it.
func crowded() api.LoTask {
	task, _ := street()
	task.Scene.Road.Trees = []api.RdTree{{X: 50000, R: 1, High: 1}}
	return task
}

// P5.2, P5.13: what Build returns is new memory.
func TestScenesAreNew(t *testing.T) {
	task, l := crowded(), api.LoLayout{Level: 1, Step: 1, Sides: api.LoBoth}
	was := separate(task)
	s, e := Build(task, l)
	again, _ := Build(task, l)
	if e != api.OK || !reflect.DeepEqual(s, again) || len(s.Road.Columns) != 2 {
		t.Fatalf("Build = %v, %d, and then %v", s, e, again)
	}
	spoil(&s)
	if got := separate(task); !reflect.DeepEqual(got, was) {
		t.Errorf("the task became %v", got)
	}
	if other, _ := Build(task, l); !reflect.DeepEqual(other, again) {
		t.Errorf("Build = %v, then %v", again, other)
	}
}

// P5.13: lists that are one in the task are two in a result.
func TestListsOfAResultAreSeparate(t *testing.T) {
	task := crowded()
	tables := task.Scene.Catalog.Tables
	line := []int{-5000, 5000}
	for i := range tables {
		tables[i].Us, tables[i].Vs = line, line
		row := []int{1, 1}
		tables[i].Values = [][]int{row, row}
	}
	roads, fronts := task.Scene.Road.Roads, task.Scene.Road.Fronts
	roads[1].Points, fronts[1].Windows = roads[0].Points, fronts[0].Windows
	s, e := Build(task, api.LoLayout{Step: 1, Sides: api.LoBoth})
	if e != api.OK {
		t.Fatal(e)
	}
	tables = s.Catalog.Tables
	for _, lists := range [][][]int{{tables[0].Us, tables[0].Vs, tables[1].Us, tables[1].Vs}, {tables[0].Values[0], tables[0].Values[1], tables[1].Values[0], tables[1].Values[1]}} {
		for i, list := range lists {
			list[0] = 100 + i
		}
		for i, list := range lists {
			if list[0] != 100+i {
				t.Errorf("list %d shares memory with another one", i)
			}
		}
	}
	s.Road.Roads[0].Points[0][0], s.Road.Fronts[0].Windows[0].Low = 77, 77
	if s.Road.Roads[1].Points[0][0] == 77 || s.Road.Fronts[1].Windows[0].Low == 77 {
		t.Error("two roads, or fronts, share memory")
	}
}

// P5.13: any numbers are accepted.
func TestAnyArguments(t *testing.T) {
	r := rand.New(rand.NewSource(5131))
	any := func() int {
		n := []int{-1, 0, 1, 2, 3, 4, 100, 1000, 100000, 100001, math.MaxInt, math.MinInt, math.MaxInt - 1}
		return n[r.Intn(len(n))]
	}
	accepted := 0
	for range 3000 {
		task := example()
		if r.Intn(4) == 0 {
			task, _ = street()
		}
		spoilTask(r, &task, any)
		l := api.LoLayout{Pole: any(), Lamp: any(), Level: any(), Step: any(), Sides: any()}
		if r.Intn(2) == 0 {
			l = api.LoLayout{Step: 1, Sides: api.LoBoth}
		}
		reason := api.LoReason{Kind: from(r, -1, 8), Need: any(), Patch: any(), Front: any(), Window: any()}
		_, _, e := Check(task)
		if e == api.OK {
			accepted++
		}
		all, e1 := All(task)
		_, e2 := Best(task)
		trade, e3 := Trade(task)
		if e1 != e || e2 != e && e2 != api.ErrDown || e3 != e || e != api.OK && len(all)+len(trade) != 0 {
			t.Fatalf("%v: %d, %d, %d, %d", task, e, e1, e2, e3)
		}
		Build(task, l)
		Value(task, l)
		Why(task, l)
		Holds(task, l, reason)
		Accept(task, api.LoFound{Layout: l, Value: any(), Reasons: []api.LoReason{reason}})
		Lowest(task, l)
	}
	if accepted < 200 {
		t.Errorf("%d tasks without an error", accepted)
	}
}

// spoilTask sets some numbers of a task to any numbers.
func spoilTask(r *rand.Rand, t *api.LoTask, any func() int) {
	switch r.Intn(8) {
	case 0:
		t.Scene.Surface = any()
	case 1:
		t.Sites[0] = api.LoSite{X: any(), Y: any(), DX: any(), DY: any()}
	case 2:
		t.Poles[r.Intn(2)] = api.LoPole{Height: any(), Price: any()}
	case 3:
		t.Lamps[0] = api.LoLamp{Lamp: any(), Price: any(), Hours: any(), Months: any()}
	case 4:
		t.Levels = []int{any(), any()}[:r.Intn(3)]
	case 5:
		t.Steps = any()
	case 6:
		t.Needs = []api.LoNeed{{Road: any(), Class: api.LtClass{Kind: any(), Average: any(), Least: any(), Uniform: any(), Glare: any(), Step: any(), DX: any(), DY: any()}}}
	case 7:
		t.Sky, t.Window, t.Goal, t.Hours, t.PerKwh = any(), any(), any(), any(), any()
	}
}
