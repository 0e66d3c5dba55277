package light

import (
	"linkboy/api"
	"linkboy/plane"
	"linkboy/whole"
)

// lengthScale is how often the length of a direction is taken before it is rounded.
const lengthScale = 1000

// frameFrom returns a patch as the lamp of a column sees it.
func frameFrom(c *api.RdColumn, p api.RdPatch) api.LmRect {
	return frame(offsets(c, p), plane.Vector{X: c.DX, Y: c.DY})
}

// offsets returns the ways from the place of a column to the corners of a patch.
func offsets(c *api.RdColumn, p api.RdPatch) [4]plane.Vector {
	place := plane.Vector{X: c.X, Y: c.Y}
	all := plane.Corners(p)
	for i, corner := range all {
		all[i] = corner.Minus(place)
	}
	return all
}

// frame returns the rectangle around offsets that are seen in a direction.
func frame(offsets [4]plane.Vector, direction plane.Vector) api.LmRect {
	across := seenAlong(plane.Vector{X: direction.Y, Y: -direction.X}, offsets)
	along := seenAlong(direction, offsets)
	return api.LmRect{X0: across.Lo, X1: across.Hi, Y0: along.Lo, Y1: along.Hi}
}

// seenAlong encloses how far offsets go along an axis, as far as a lamp has a table.
func seenAlong(axis plane.Vector, offsets [4]plane.Vector) api.Encl {
	products := whole.Only(axis.Dot(offsets[0]))
	for _, o := range offsets[1:] {
		products = whole.Join(products, whole.Only(axis.Dot(o)))
	}
	length := whole.Root(lengthScale * lengthScale * axis.Dot(axis))
	far := api.Encl{
		Lo: min(down.quotient(lengthScale*products.Lo, length.Lo), down.quotient(lengthScale*products.Lo, length.Hi)),
		Hi: max(up.quotient(lengthScale*products.Hi, length.Lo), up.quotient(lengthScale*products.Hi, length.Hi)),
	}
	return api.Encl{Lo: offset(far.Lo), Hi: offset(far.Hi)}
}

// offset returns the offset that is nearest to a number.
func offset(n int) int { return min(max(n, -api.MaxOffset), api.MaxOffset) }

// squares encloses the squares of the distances of the points of a patch to the place of a column.
func squares(c *api.RdColumn, p api.RdPatch) api.Encl {
	across, along := away(c.X, p.X0, p.X1), away(c.Y, p.Y0, p.Y1)
	return api.Encl{Lo: across.Lo*across.Lo + along.Lo*along.Lo, Hi: across.Hi*across.Hi + along.Hi*along.Hi}
}

// away encloses how far from a number those from least to most are.
func away(n, least, most int) api.Encl {
	return api.Encl{Lo: max(least-n, n-most, 0), Hi: max(n-least, most-n)}
}
