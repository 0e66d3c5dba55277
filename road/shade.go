package road

import (
	"linkboy/api"
	"linkboy/plane"
)

// Shaded returns the first tree that shades a point from a lamp.
func Shaded(s api.RdScene, column, x, y int) (tree int, e api.Errno) {
	p := plane.PatchOf(plane.Vector{X: x, Y: y})
	if e := patchError(s, column, len(s.Columns), p); e != api.OK {
		return 0, e
	}
	for tree := range s.Trees {
		if w, hasCrown := beam(&s.Columns[column], &s.Trees[tree], p); hasCrown && w.reachesAll() {
			return tree, api.OK
		}
	}
	return -1, api.OK
}

// Shade returns how a patch is shaded from a lamp.
func Shade(s api.RdScene, column int, p api.RdPatch) (int, api.Errno) {
	if e := patchError(s, column, len(s.Columns), p); e != api.OK {
		return 0, e
	}
	shade := api.RdLit
	for tree := range s.Trees {
		w, hasCrown := beam(&s.Columns[column], &s.Trees[tree], p)
		if !hasCrown || !w.reachesSome() {
			continue
		}
		if w.reachesAll() {
			return api.RdDark, api.OK
		}
		shade = api.RdPart
	}
	return shade, api.OK
}
