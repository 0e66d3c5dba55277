package layout

import (
	"linkboy/api"
	"linkboy/light"
	"linkboy/parts"
	"linkboy/plane"
	"linkboy/whole"
)

// Parts of a task in which Check finds an error.
const (
	partScene  = 1
	partCounts = 2
	partSites  = 3
	partPoles  = 4
	partLamps  = 5
	partLevels = 6
	partNeeds  = 7
	partGoal   = 8
)

// Check returns the part, the index in it and the error of a task.
func Check(t api.LoTask) (part, at int, e api.Errno) {
	if e := sceneError(&t.Scene); e != api.OK {
		return partScene, 0, e
	}
	if !areCounts(&t) {
		return partCounts, 0, api.ErrLong
	}
	if at, e := parts.FirstError(t.Sites, siteError); e != api.OK {
		return partSites, at, e
	}
	if at, e := parts.FirstError(t.Poles, poleError); e != api.OK {
		return partPoles, at, e
	}
	lampError := func(_ []api.LoLamp, l *api.LoLamp) api.Errno { return choiceError(l, len(t.Scene.Catalog.Lamps)) }
	if at, e := parts.FirstError(t.Lamps, lampError); e != api.OK {
		return partLamps, at, e
	}
	if at, e := parts.FirstError(t.Levels, levelError); e != api.OK {
		return partLevels, at, e
	}
	needError := func(_ []api.LoNeed, n *api.LoNeed) api.Errno { return judgeError(n, t.Scene) }
	if at, e := parts.FirstError(t.Needs, needError); e != api.OK {
		return partNeeds, at, e
	}
	if e := goalError(&t); e != api.OK {
		return partGoal, 0, e
	}
	return 0, 0, api.OK
}

// errorOf returns the error of a task.
func errorOf(t *api.LoTask) api.Errno {
	_, _, e := Check(*t)
	return e
}

// layoutError returns the error of a task, or of a layout that is none of it.
func layoutError(t *api.LoTask, l api.LoLayout) api.Errno {
	if e := errorOf(t); e != api.OK {
		return e
	}
	if !isLayout(t, l) {
		return api.ErrNone
	}
	return api.OK
}

// sceneError returns the first error of the scene of a task.
func sceneError(s *api.LtScene) api.Errno {
	if _, _, e := light.Check(*s); e != api.OK {
		return e
	}
	if len(s.Road.Columns) > 0 {
		return api.ErrArg
	}
	return api.OK
}

// areCounts reports whether there are as many of all things as there may be.
func areCounts(t *api.LoTask) bool {
	choices := []int{len(t.Poles), len(t.Lamps), len(t.Levels), t.Steps}
	return whole.IsFrom(len(t.Sites), 1, api.MaxLoSites) && whole.AreFrom(choices, 1, api.MaxLoChoices) && len(t.Needs) <= api.MaxLoNeeds && count(t) <= api.MaxLayouts
}

// siteError returns the first error of a site.
func siteError(_ []api.LoSite, s *api.LoSite) api.Errno {
	switch {
	case !plane.ArePlaces([2]int{s.X, s.Y}) || !plane.IsHeading(s.DX) || !plane.IsHeading(s.DY):
		return api.ErrRange
	case s.DX == 0 && s.DY == 0:
		return api.ErrArg
	}
	return api.OK
}

// poleError returns the error of a pole.
func poleError(_ []api.LoPole, p *api.LoPole) api.Errno {
	if !whole.IsFrom(p.Height, 1, api.MaxRdHeight) || !isPrice(p.Price) {
		return api.ErrRange
	}
	return api.OK
}

// choiceError returns the first error of a lamp, which is chosen from so many.
func choiceError(l *api.LoLamp, lamps int) api.Errno {
	switch {
	case !whole.IsIndex(l.Lamp, lamps):
		return api.ErrNone
	case !isPrice(l.Price) || !whole.IsFrom(l.Hours, 0, api.MaxHours) || !whole.IsFrom(l.Months, 0, api.MaxMonths):
		return api.ErrRange
	}
	return api.OK
}

// levelError returns the first error of a level.
func levelError(before []int, level *int) api.Errno {
	switch {
	case !whole.IsFrom(*level, 1, api.All):
		return api.ErrRange
	case len(before) > 0 && *level <= before[len(before)-1]:
		return api.ErrArg
	}
	return api.OK
}

// judgeError returns the error of a need in a scene.
func judgeError(n *api.LoNeed, s api.LtScene) api.Errno {
	_, e := light.Judge(s, n.Road, n.Class)
	return e
}

// goalError returns the first error of what is asked of all layouts.
func goalError(t *api.LoTask) api.Errno {
	switch {
	case t.Sky < 0 || t.Window < 0 || !whole.IsFrom(t.Hours, 0, api.MaxLoHours) || !whole.IsFrom(t.PerKwh, 0, api.MaxPerKwh):
		return api.ErrRange
	case t.Goal != api.LoCheap && t.Goal != api.LoSaving:
		return api.ErrArg
	}
	return api.OK
}

func isPrice(n int) bool { return whole.IsFrom(n, 0, api.MaxPrice) }
