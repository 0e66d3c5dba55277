package road

import (
	"linkboy/api"
	"linkboy/plane"
)

// sweep is a rectangle that goes straight from one place to another one, where it may have another size: each corner goes on a straight line. Strips and shadows are sets of points of a patch that pass the origin within a reach: a strip's patch is seen from a point that goes along the piece, a shadow's from the axis of the tree while it shrinks to the lamp.
type sweep struct {
	from, to api.RdPatch
	reach    int
}

// reachesAll reports whether each point of the rectangle passes the origin within the reach. Its corners decide, because the points that do are a convex set.
func (w sweep) reachesAll() bool {
	to := plane.Corners(w.to)
	for i, from := range plane.Corners(w.from) {
		if !isNear(from, to[i], w.reach) {
			return false
		}
	}
	return true
}

// reachesSome reports whether some point of the rectangle passes the origin within the reach. What the rectangle covers on its way is it at the start, and what its four sides cover.
func (w sweep) reachesSome() bool {
	if w.isBeyond() {
		return false
	}
	if hasOrigin(w.from) {
		return true
	}
	from, to := plane.Corners(w.from), plane.Corners(w.to)
	for i := range from {
		next := (i + 1) % len(from)
		if isFaceNear([4]plane.Vector{from[i], from[next], to[next], to[i]}, w.reach) {
			return true
		}
	}
	return false
}

// isBeyond reports whether the rectangle stays farther than the reach in one direction. This is quickly said of most patches.
func (w sweep) isBeyond() bool {
	return min(w.from.X0, w.to.X0) > w.reach || max(w.from.X1, w.to.X1) < -w.reach ||
		min(w.from.Y0, w.to.Y0) > w.reach || max(w.from.Y1, w.to.Y1) < -w.reach
}

func hasOrigin(p api.RdPatch) bool {
	return p.X0 <= 0 && 0 <= p.X1 && p.Y0 <= 0 && 0 <= p.Y1
}

// isFaceNear reports whether the origin is no farther than reach from a convex face.
func isFaceNear(face [4]plane.Vector, reach int) bool {
	for i, a := range face {
		if isNear(a, face[(i+1)%len(face)], reach) {
			return true
		}
	}
	return surrounds(face)
}

// strip returns how a patch passes a point that goes along a piece of a road, in half mm, as half of the width may be none.
func strip(r *api.RdRoad, from, to plane.Vector, p api.RdPatch) sweep {
	return sweep{from: twiceFrom(p, from), to: twiceFrom(p, to), reach: r.Width}
}

// twiceFrom returns a patch as it is seen from a place, in half mm.
func twiceFrom(p api.RdPatch, place plane.Vector) api.RdPatch {
	return api.RdPatch{X0: 2 * (p.X0 - place.X), Y0: 2 * (p.Y0 - place.Y), X1: 2 * (p.X1 - place.X), Y1: 2 * (p.Y1 - place.Y)}
}

// beam returns how the light from a lamp to a patch passes the axis of a tree on its way through the heights of the crown, or that all of it is below the crown. Its unit is a mm, divided by the height of the lamp, in which all of its rectangles are exact.
func beam(c *api.RdColumn, t *api.RdTree, p api.RdPatch) (w sweep, hasCrown bool) {
	if t.Low > c.Height {
		return sweep{}, false
	}
	return sweep{from: slice(c, t, p, t.Low), to: slice(c, t, p, min(t.High, c.Height)), reach: c.Height * t.R}, true
}

// slice returns where the light from a lamp to a patch is at a height, seen from the axis of a tree, in mm divided by the height of the lamp.
func slice(c *api.RdColumn, t *api.RdTree, p api.RdPatch, height int) api.RdPatch {
	rest := c.Height - height
	x, y := height*c.X-c.Height*t.X, height*c.Y-c.Height*t.Y
	return api.RdPatch{X0: rest*p.X0 + x, Y0: rest*p.Y0 + y, X1: rest*p.X1 + x, Y1: rest*p.Y1 + y}
}
