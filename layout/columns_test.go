package layout

import (
	"math/rand"
	"reflect"
	"slices"
	"strconv"
	"testing"

	"linkboy/api"
)

// rows returns a task with five sites on the left, six on the right, mixed.
func rows() api.LoTask {
	t := example()
	t.Sites = nil
	for i, isRight := range []bool{true, false, false, true, true, false, true, true, false, false, true} {
		t.Sites = append(t.Sites, api.LoSite{Right: isRight, X: 1000 * i, Y: -i, DX: i, DY: 1})
	}
	t.Lamps = []api.LoLamp{{}, {Hours: 70, Months: 8}}
	t.Steps = 4
	return t
}

// names returns the names of columns for the indices of sites.
func names(indices []int) (all []string) {
	for _, i := range indices {
		all = append(all, "c"+strconv.Itoa(i))
	}
	return all
}

// P5.2, P5.12: which sites have a column. The left ones are 1, 2, 5, 8 and 9, the right ones 0, 3, 4, 6, 7 and 10.
func TestColumns(t *testing.T) {
	for _, c := range []struct {
		step, sides int
		want        []int
	}{
		{1, api.LoLeft, []int{1, 2, 5, 8, 9}}, {1, api.LoRight, []int{0, 3, 4, 6, 7, 10}}, {1, api.LoBoth, []int{0, 1, 2, 3, 4, 5, 6, 7, 8, 9, 10}}, {1, api.LoZigzag, []int{0, 1, 2, 3, 4, 5, 6, 7, 8, 9, 10}},
		{2, api.LoLeft, []int{1, 5, 9}}, {2, api.LoRight, []int{0, 4, 7}}, {2, api.LoBoth, []int{0, 1, 4, 5, 7, 9}}, {2, api.LoZigzag, []int{1, 3, 5, 6, 9, 10}},
		{3, api.LoLeft, []int{1, 8}}, {3, api.LoRight, []int{0, 6}}, {3, api.LoBoth, []int{0, 1, 6, 8}}, {3, api.LoZigzag, []int{1, 3, 7, 8}},
		{4, api.LoLeft, []int{1, 9}}, {4, api.LoRight, []int{0, 7}}, {4, api.LoBoth, []int{0, 1, 7, 9}}, {4, api.LoZigzag, []int{1, 4, 9}},
	} {
		task := rows()
		l := api.LoLayout{Pole: 1, Lamp: 1, Level: 1, Step: c.step, Sides: c.sides}
		s, e := Build(task, l)
		var got []string
		for _, column := range s.Road.Columns {
			got = append(got, column.Name)
		}
		if !slices.Equal(got, names(c.want)) || e != api.OK {
			t.Errorf("the columns of %v: %v, %d, want %v", l, got, e, names(c.want))
		}
	}
}

// P5.2: what a column has, and that the rest of the scene is that of the task.
func TestBuild(t *testing.T) {
	task := rows()
	task.Scene.Road.Trees = []api.RdTree{{X: 50000, R: 1, High: 1}}
	s, e := Build(task, api.LoLayout{Pole: 1, Lamp: 1, Step: 4, Sides: api.LoZigzag})
	columns := []api.RdColumn{{Name: "c1", X: 1000, Y: -1, Height: 60, DX: 1, DY: 1}, {Name: "c4", X: 4000, Y: -4, Height: 60, DX: 4, DY: 1}, {Name: "c9", X: 9000, Y: -9, Height: 60, DX: 9, DY: 1}}
	use := api.LmUse{Hours: 70, Months: 8, Level: 500}
	if !slices.Equal(s.Road.Columns, columns) || !slices.Equal(s.Lamps, []int{0, 0, 0}) || !slices.Equal(s.Uses, []api.LmUse{use, use, use}) || e != api.OK {
		t.Errorf("Build = %v, %d", s, e)
	}
	s.Road.Columns, s.Lamps, s.Uses = nil, nil, nil
	if !reflect.DeepEqual(s, task.Scene) {
		t.Errorf("the scene without its columns: %v", s)
	}
}

// P5.12
func TestSidesOfRandomTasks(t *testing.T) {
	r := rand.New(rand.NewSource(512))
	for range 300 {
		task := randomTask(r)
		l := randomLayout(r, &task)
		on := func(step, sides int) (all []api.RdColumn) {
			l.Step, l.Sides = step, sides
			s, _ := Build(task, l)
			for i, c := range s.Road.Columns {
				lamp := task.Lamps[l.Lamp]
				if use := (api.LmUse{Hours: lamp.Hours, Months: lamp.Months, Level: task.Levels[l.Level]}); c.Height != task.Poles[l.Pole].Height || s.Lamps[i] != lamp.Lamp || s.Uses[i] != use {
					t.Fatalf("a column of %v, %v: %v, %d, %v", task, l, c, s.Lamps[i], s.Uses[i])
				}
			}
			slices.SortFunc(s.Road.Columns, func(a, b api.RdColumn) int { return compareNames(a.Name, b.Name) })
			return s.Road.Columns
		}
		if isTooBright(task, l) {
			continue
		}
		for step := 1; step <= task.Steps; step++ {
			both := slices.Concat(on(step, api.LoLeft), on(step, api.LoRight))
			slices.SortFunc(both, func(a, b api.RdColumn) int { return compareNames(a.Name, b.Name) })
			if got := on(step, api.LoBoth); !slices.Equal(got, both) {
				t.Fatalf("the columns of both sides of %v, %v: %v, want %v", task, l, got, both)
			}
		}
		if got, want := on(1, api.LoZigzag), on(1, api.LoBoth); !slices.Equal(got, want) || len(got) != len(task.Sites) {
			t.Fatalf("the columns in zigzag of %v, %v: %v, want %v", task, l, got, want)
		}
	}
}

func compareNames(a, b string) int {
	m, _ := strconv.Atoi(a[1:])
	n, _ := strconv.Atoi(b[1:])
	return m - n
}

// isTooBright reports whether a layout cannot be built with any columns.
func isTooBright(task api.LoTask, l api.LoLayout) bool {
	l.Step, l.Sides = 1, api.LoBoth
	return wantWrong(wantScene(task, l))
}

// Whoever looks for one layout, or site, need not go through all of them.
func TestLoopsThatEndEarly(t *testing.T) {
	task := rows()
	n := 0
	for range layouts(&task) {
		if n++; n == 3 {
			break
		}
	}
	for range taken(&task, api.LoLayout{Step: 1, Sides: api.LoBoth}) {
		if n++; n == 5 {
			break
		}
	}
	d := newDraft(&task, api.LoLayout{Step: 1, Sides: api.LoBoth})
	for range d.reasons() {
		if n++; n == 6 {
			break
		}
	}
	if n != 6 {
		t.Errorf("%d turns", n)
	}
}
