package light

import (
	"linkboy/api"
	"linkboy/plane"
	"linkboy/road"
	"linkboy/whole"
)

// maxAsked is the greatest average, and the greatest least value, that a class asks for.
const maxAsked = 1000000000

// Judge returns the light of a road.
func Judge(s api.LtScene, road int, c api.LtClass) (api.LtResult, api.Errno) {
	if e := errorOf(s); e != api.OK {
		return api.LtResult{}, e
	}
	if e := classError(s, road, c); e != api.OK {
		return api.LtResult{}, e
	}
	patches, e := patchesOf(s.Road, road, c.Step)
	if e != api.OK {
		return api.LtResult{}, e
	}
	return judged(s, patches, c), api.OK
}

// Accept reports whether a road certainly has the light of a class.
func Accept(s api.LtScene, road int, c api.LtClass) (bool, api.Errno) {
	r, e := Judge(s, road, c)
	if e != api.OK {
		return false, e
	}
	return r.Average.Lo >= c.Average && r.Least.Lo >= c.Least && r.Uniform >= c.Uniform && r.Glare <= c.Glare, api.OK
}

// classError returns the first error of a road, or of a class, in a scene.
func classError(s api.LtScene, road int, c api.LtClass) api.Errno {
	switch {
	case !whole.IsIndex(road, len(s.Road.Roads)):
		return api.ErrNone
	case c.Kind != api.LtLux && c.Kind != api.LtBright:
		return api.ErrArg
	case !areAsked(c):
		return api.ErrRange
	case !plane.IsDirection(c.DX, c.DY):
		return api.ErrArg
	case c.Kind == api.LtBright && s.Surface < 0:
		return api.ErrNone
	}
	return api.OK
}

// areAsked reports whether all numbers of a class, but its direction, are in their ranges.
func areAsked(c api.LtClass) bool {
	return whole.AreFrom([]int{c.Average, c.Least}, 0, maxAsked) && whole.IsFrom(c.Uniform, 0, api.All) &&
		whole.IsFrom(c.Glare, 0, api.MaxGlare) && whole.IsFrom(c.Step, api.MinRdStep, api.MaxRdPlace)
}

// patchesOf returns the patches of a road: what squares that cover it have of the places there are.
func patchesOf(s api.RdScene, index, step int) ([]api.RdPatch, api.Errno) {
	patches, e := road.Patches(s, index, step)
	return plane.Cut(patches), e
}

// judged returns the light on all patches of a road, of which there is at least one.
func judged(s api.LtScene, patches []api.RdPatch, c api.LtClass) api.LtResult {
	values := make([]api.Encl, len(patches))
	for i, p := range patches {
		values[i] = valueOf(s, p, c)
	}
	r := api.LtResult{Average: average(values), Least: values[0], Patches: len(values)}
	for i, x := range values {
		if x.Lo < r.Least.Lo {
			r.Least.Lo, r.Worst = x.Lo, i
		}
		r.Least.Hi = min(r.Least.Hi, x.Hi)
	}
	if r.Average.Hi > 0 {
		r.Uniform = down.quotient(api.All*r.Least.Lo, r.Average.Hi)
	}
	if c.Kind == api.LtBright {
		r.Glare = glare(worstVeil(s, patches, c), r.Average.Lo)
	}
	return r
}

// valueOf encloses what a class asks for, on a patch.
func valueOf(s api.LtScene, p api.RdPatch, c api.LtClass) api.Encl {
	if c.Kind == api.LtLux {
		return luxOf(s, p)
	}
	return brightOf(s, p, plane.Vector{X: c.DX, Y: c.DY})
}

func average(values []api.Encl) api.Encl {
	var all api.Encl
	for _, x := range values {
		all = whole.Add(all, x)
	}
	return api.Encl{Lo: down.quotient(all.Lo, len(values)), Hi: up.quotient(all.Hi, len(values))}
}

// worstVeil returns the greatest veil that there may be in the middles of patches.
func worstVeil(s api.LtScene, patches []api.RdPatch, c api.LtClass) int {
	worst := 0
	for _, p := range patches {
		middle := api.LtView{X: down.quotient(p.X0+p.X1, 2), Y: down.quotient(p.Y0+p.Y1, 2), DX: c.DX, DY: c.DY}
		worst = max(worst, veilOf(s, middle).Hi)
	}
	return worst
}

// glare returns how much a veil is of the average luminance, in per mille.
func glare(veil, average int) int {
	if average == 0 {
		return api.MaxGlare
	}
	return min(up.quotient(api.All*veil, average), api.MaxGlare)
}
