package layout

import (
	"math/big"
	"strconv"

	"linkboy/api"
	"linkboy/light"
	"linkboy/road"
)

// What follows computes as the document says, in its order, and keeps nothing.

// wantLayouts returns all layouts of a task.
func wantLayouts(t api.LoTask) (all []api.LoLayout) {
	for pole := range t.Poles {
		for lamp := range t.Lamps {
			for level := range t.Levels {
				for step := 1; step <= t.Steps; step++ {
					for _, sides := range []int{api.LoLeft, api.LoRight, api.LoBoth, api.LoZigzag} {
						all = append(all, api.LoLayout{Pole: pole, Lamp: lamp, Level: level, Step: step, Sides: sides})
					}
				}
			}
		}
	}
	return all
}

// wantSites returns, for each site, whether a layout takes it.
func wantSites(t api.LoTask, l api.LoLayout) []bool {
	all := make([]bool, len(t.Sites))
	var left, right []int
	for i, s := range t.Sites {
		if s.Right {
			right = append(right, i)
		} else {
			left = append(left, i)
		}
	}
	take := func(sites []int, first int) {
		for n := first; n < len(sites); n += l.Step {
			all[sites[n]] = true
		}
	}
	if l.Sides != api.LoRight {
		take(left, 0)
	}
	if l.Sides == api.LoRight || l.Sides == api.LoBoth {
		take(right, 0)
	}
	if l.Sides == api.LoZigzag {
		take(right, l.Step/2)
	}
	return all
}

// wantScene returns the scene of a layout.
func wantScene(t api.LoTask, l api.LoLayout) api.LtScene {
	s := t.Scene
	s.Road.Columns, s.Lamps, s.Uses = nil, nil, nil
	for i, isTaken := range wantSites(t, l) {
		if isTaken {
			site, lamp := t.Sites[i], t.Lamps[l.Lamp]
			s.Road.Columns = append(s.Road.Columns, api.RdColumn{Name: "c" + strconv.Itoa(i), X: site.X, Y: site.Y, DX: site.DX, DY: site.DY, Height: t.Poles[l.Pole].Height})
			s.Lamps = append(s.Lamps, lamp.Lamp)
			s.Uses = append(s.Uses, api.LmUse{Hours: lamp.Hours, Months: lamp.Months, Level: t.Levels[l.Level]})
		}
	}
	return s
}

func wantWrong(s api.LtScene) bool {
	_, _, e := light.Check(s)
	return e != api.OK || len(s.Road.Columns) == 0
}

// wantPower returns the power and the cost of a layout that can be built.
func wantPower(t api.LoTask, l api.LoLayout) (power, cost int) {
	s := wantScene(t, l)
	x, _ := light.Power(s)
	energy := big.NewInt(int64(x.Hi))
	energy.Mul(energy, big.NewInt(int64(t.Hours)))
	energy.Mul(energy, big.NewInt(int64(t.PerKwh)))
	energy.Add(energy, big.NewInt(999999)).Div(energy, big.NewInt(1000000))
	return x.Hi, len(s.Road.Columns)*t.Poles[l.Pole].Price + len(s.Road.Columns)*t.Lamps[l.Lamp].Price + int(energy.Int64())
}

func wantValue(t api.LoTask, l api.LoLayout) int {
	if wantWrong(wantScene(t, l)) {
		return 0
	}
	power, cost := wantPower(t, l)
	if t.Goal == api.LoCheap {
		return cost
	}
	return power
}

// wantPatches returns the patches of the road of a need.
func wantPatches(t api.LoTask, n api.LoNeed) (all []api.RdPatch) {
	squares, _ := road.Patches(t.Scene.Road, n.Road, n.Class.Step)
	for _, p := range squares {
		if p.X0 <= 100000 && p.Y0 <= 100000 && p.X1 >= -100000 && p.Y1 >= -100000 {
			all = append(all, api.RdPatch{X0: max(p.X0, -100000), Y0: max(p.Y0, -100000), X1: min(p.X1, 100000), Y1: min(p.Y1, 100000)})
		}
	}
	return all
}

// wantOf returns what a class asks for, on a patch of a scene.
func wantOf(s api.LtScene, c api.LtClass, p api.RdPatch) (x api.Encl) {
	if c.Kind == api.LtBright {
		x, _ = light.Bright(s, p, c.DX, c.DY)
	} else {
		x, _ = light.Lux(s, p)
	}
	return x
}

// wantReasons returns all reasons that hold for a layout, in the order of their kinds, but need by need.
func wantReasons(t api.LoTask, l api.LoLayout) (all []api.LoReason) {
	s := wantScene(t, l)
	if wantWrong(s) {
		return []api.LoReason{{Kind: 1}}
	}
	if most, _ := light.Sky(s); most > t.Sky {
		all = append(all, api.LoReason{Kind: 2})
	}
	for front, f := range s.Road.Fronts {
		for window := range f.Windows {
			if most, _ := light.Window(s, front, window); most > t.Window {
				all = append(all, api.LoReason{Kind: 3, Front: front, Window: window})
			}
		}
	}
	for need, n := range t.Needs {
		for patch, p := range wantPatches(t, n) {
			if wantOf(s, n.Class, p).Lo < n.Class.Least {
				all = append(all, api.LoReason{Kind: 4, Need: need, Patch: patch})
			}
		}
		r, _ := light.Judge(s, n.Road, n.Class)
		if r.Average.Lo < n.Class.Average {
			all = append(all, api.LoReason{Kind: 5, Need: need})
		}
		if r.Uniform < n.Class.Uniform {
			all = append(all, api.LoReason{Kind: 6, Need: need})
		}
		if r.Glare > n.Class.Glare {
			all = append(all, api.LoReason{Kind: 7, Need: need})
		}
	}
	return all
}

// wantWhy returns the reason why a layout does not do.
func wantWhy(t api.LoTask, l api.LoLayout) api.LoReason {
	all := wantReasons(t, l)
	if len(all) == 0 {
		return api.LoReason{}
	}
	if all[0].Kind == api.LoLeast {
		n := t.Needs[all[0].Need]
		r, _ := light.Judge(wantScene(t, l), n.Road, n.Class)
		all[0].Patch = r.Worst
	}
	return all[0]
}

// wantBest returns the best layout of a task with its certificate, or reports that none does.
func wantBest(t api.LoTask) (f api.LoFound, is bool) {
	at := 0
	for i, l := range wantLayouts(t) {
		if wantWhy(t, l) == (api.LoReason{}) && (!is || wantValue(t, l) < f.Value) {
			f, is, at = api.LoFound{Layout: l, Value: wantValue(t, l)}, true, i
		}
	}
	for i, l := range wantLayouts(t) {
		if v := wantValue(t, l); is && (v < f.Value || i < at && v == f.Value) {
			f.Reasons = append(f.Reasons, wantWhy(t, l))
		}
	}
	return f, is
}

// wantTrade returns the layouts that do, and of which no other one costs and burns less.
func wantTrade(t api.LoTask) (all []api.LoLayout) {
	type entry struct {
		l           api.LoLayout
		power, cost int
	}
	var do []entry
	for _, l := range wantLayouts(t) {
		if wantWhy(t, l) == (api.LoReason{}) {
			power, cost := wantPower(t, l)
			do = append(do, entry{l, power, cost})
		}
	}
	for i, x := range do {
		kept := true
		for j, y := range do {
			if y.cost <= x.cost && y.power <= x.power && (y.cost < x.cost || y.power < x.power || j < i) {
				kept = false
			}
		}
		if kept {
			all = append(all, x.l)
		}
	}
	return all
}
