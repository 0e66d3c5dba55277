package layout

import (
	"cmp"
	"iter"
	"strconv"

	"linkboy/api"
	"linkboy/whole"
)

// layouts yields the layouts of a task, in their order.
func layouts(t *api.LoTask) iter.Seq[api.LoLayout] {
	return func(yield func(api.LoLayout) bool) {
		for n := range count(t) {
			if !yield(layoutAt(t, n)) {
				return
			}
		}
	}
}

// count returns how many layouts a task has.
func count(t *api.LoTask) int {
	return len(t.Poles) * len(t.Lamps) * len(t.Levels) * t.Steps * api.LoZigzag
}

// layoutAt returns the layout of a task with this number, from 0 on: what comes last in the order of layouts changes from each one to the next one.
func layoutAt(t *api.LoTask, n int) api.LoLayout {
	pick := func(choices int) int {
		picked := n % choices
		n /= choices
		return picked
	}
	var l api.LoLayout
	l.Sides = api.LoLeft + pick(api.LoZigzag)
	l.Step = 1 + pick(t.Steps)
	l.Level = pick(len(t.Levels))
	l.Lamp = pick(len(t.Lamps))
	l.Pole = pick(len(t.Poles))
	return l
}

// isLayout reports whether a layout is one of a task.
func isLayout(t *api.LoTask, l api.LoLayout) bool {
	return whole.IsIndex(l.Pole, len(t.Poles)) && whole.IsIndex(l.Lamp, len(t.Lamps)) && whole.IsIndex(l.Level, len(t.Levels)) &&
		whole.IsFrom(l.Step, 1, t.Steps) && whole.IsFrom(l.Sides, api.LoLeft, api.LoZigzag)
}

// inOrder compares two layouts by their order.
func inOrder(a, b api.LoLayout) int {
	return cmp.Or(cmp.Compare(a.Pole, b.Pole), cmp.Compare(a.Lamp, b.Lamp), cmp.Compare(a.Level, b.Level), cmp.Compare(a.Step, b.Step), cmp.Compare(a.Sides, b.Sides))
}

// sceneOf returns the scene of a layout, which shares the rest of it with the scene of the task.
func sceneOf(t *api.LoTask, l api.LoLayout) api.LtScene {
	s, lamp := t.Scene, t.Lamps[l.Lamp]
	s.Road.Columns, s.Lamps, s.Uses = nil, nil, nil // an empty list of the task may have room to append
	for index, site := range taken(t, l) {
		name := "c" + strconv.Itoa(index)
		s.Road.Columns = append(s.Road.Columns, api.RdColumn{Name: name, X: site.X, Y: site.Y, Height: t.Poles[l.Pole].Height, DX: site.DX, DY: site.DY})
		s.Lamps = append(s.Lamps, lamp.Lamp)
		s.Uses = append(s.Uses, api.LmUse{Hours: lamp.Hours, Months: lamp.Months, Level: t.Levels[l.Level]})
	}
	return s
}

// taken yields the sites that a layout takes, and their indices.
func taken(t *api.LoTask, l api.LoLayout) iter.Seq2[int, api.LoSite] {
	return func(yield func(int, api.LoSite) bool) {
		left, right := 0, 0
		for index, site := range t.Sites {
			number := &left
			if site.Right {
				number = &right
			}
			if takes(l, site.Right, *number) && !yield(index, site) {
				return
			}
			*number++
		}
	}
}

// takes reports whether a layout takes the site with a number on one side.
func takes(l api.LoLayout, isRight bool, number int) bool {
	remainder := 0
	switch {
	case l.Sides == api.LoLeft && isRight, l.Sides == api.LoRight && !isRight:
		return false
	case l.Sides == api.LoZigzag && isRight:
		remainder = l.Step / 2
	}
	return number%l.Step == remainder
}
