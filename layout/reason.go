package layout

import (
	"iter"

	"linkboy/api"
	"linkboy/light"
	"linkboy/plane"
	"linkboy/road"
	"linkboy/whole"
)

// why returns the reason why a layout does not do.
func (d *draft) why() api.LoReason {
	for r := range d.reasons() {
		if d.holds(r) {
			return r
		}
	}
	return api.LoReason{}
}

// reasons yields the reasons that are tried, in their order: if none of these holds, no reason does.
func (d *draft) reasons() iter.Seq[api.LoReason] {
	return func(yield func(api.LoReason) bool) {
		more := yield(api.LoReason{Kind: api.LoWrong}) && yield(api.LoReason{Kind: api.LoSky})
		for front, f := range d.scene.Road.Fronts {
			for window := range f.Windows {
				more = more && yield(api.LoReason{Kind: api.LoWindow, Front: front, Window: window})
			}
		}
		for need := range d.task.Needs {
			more = more && yield(api.LoReason{Kind: api.LoLeast, Need: need, Patch: d.ofNeed(need).Worst})
			for kind := api.LoAverage; kind <= api.LoGlare; kind++ {
				more = more && yield(api.LoReason{Kind: kind, Need: need})
			}
		}
	}
}

// holds reports whether a reason holds.
func (d *draft) holds(r api.LoReason) bool {
	if !d.isStated(r) || d.isWrong && r.Kind != api.LoWrong {
		return false
	}
	tests := [...]func(r api.LoReason) bool{
		api.LoWrong: d.wrong, api.LoSky: d.sky, api.LoWindow: d.window,
		api.LoLeast: d.least, api.LoAverage: d.average, api.LoUniform: d.uniform, api.LoGlare: d.glare,
	}
	return tests[r.Kind](r)
}

// isStated reports whether a reason has a kind, no indices but those of its kind, and a need, if this is one of them.
func (d *draft) isStated(r api.LoReason) bool {
	only := api.LoReason{Kind: r.Kind}
	switch r.Kind {
	case api.LoWrong, api.LoSky:
		return r == only
	case api.LoWindow:
		only.Front, only.Window = r.Front, r.Window
		return r == only
	case api.LoLeast:
		only.Patch = r.Patch
	case api.LoAverage, api.LoUniform, api.LoGlare:
	default:
		return false
	}
	only.Need = r.Need
	return r == only && whole.IsIndex(r.Need, len(d.task.Needs))
}

func (d *draft) wrong(api.LoReason) bool { return d.isWrong }

func (d *draft) sky(api.LoReason) bool {
	most, _ := light.Sky(d.scene)
	return most > d.task.Sky
}

func (d *draft) window(r api.LoReason) bool {
	most, e := light.Window(d.scene, r.Front, r.Window)
	return e == api.OK && most > d.task.Window
}

func (d *draft) least(r api.LoReason) bool {
	n := &d.task.Needs[r.Need]
	squares, _ := road.Patches(d.scene.Road, n.Road, n.Class.Step)
	patches := plane.Cut(squares)
	return whole.IsIndex(r.Patch, len(patches)) && d.on(patches[r.Patch], &n.Class).Lo < n.Class.Least
}

// on returns what a class asks for, on a patch.
func (d *draft) on(p api.RdPatch, c *api.LtClass) (value api.Encl) {
	if c.Kind == api.LtLux {
		value, _ = light.Lux(d.scene, p)
	} else {
		value, _ = light.Bright(d.scene, p, c.DX, c.DY)
	}
	return value
}

func (d *draft) average(r api.LoReason) bool {
	return d.ofNeed(r.Need).Average.Lo < d.task.Needs[r.Need].Class.Average
}

func (d *draft) uniform(r api.LoReason) bool {
	return d.ofNeed(r.Need).Uniform < d.task.Needs[r.Need].Class.Uniform
}

func (d *draft) glare(r api.LoReason) bool {
	return d.ofNeed(r.Need).Glare > d.task.Needs[r.Need].Class.Glare
}
