// Package plane has what several layers say of the ground: places, ways between them, directions and patches.
package plane

import (
	"linkboy/api"
	"linkboy/whole"
)

// Vector is a place, or the way from one place to another one.
type Vector struct{ X, Y int }

// Of returns the vector with two coordinates.
func Of(p [2]int) Vector { return Vector{p[0], p[1]} }

// Minus returns the way from w to v.
func (v Vector) Minus(w Vector) Vector { return Vector{v.X - w.X, v.Y - w.Y} }

// Dot returns the scalar product of two vectors.
func (v Vector) Dot(w Vector) int { return v.X*w.X + v.Y*w.Y }

// Cross returns the vector product of two vectors: it is above 0 if w points to the left of v.
func (v Vector) Cross(w Vector) int { return v.X*w.Y - v.Y*w.X }

// PatchOf returns the patch that has just one point.
func PatchOf(v Vector) api.RdPatch { return api.RdPatch{X0: v.X, Y0: v.Y, X1: v.X, Y1: v.Y} }

// Corners returns the corners of a patch, one after the other around it.
func Corners(p api.RdPatch) [4]Vector {
	return [4]Vector{{p.X0, p.Y0}, {p.X1, p.Y0}, {p.X1, p.Y1}, {p.X0, p.Y1}}
}

// ArePlaces reports whether all coordinates of places are in their range.
func ArePlaces(places ...[2]int) bool {
	for _, p := range places {
		if !isCoordinate(p[0]) || !isCoordinate(p[1]) {
			return false
		}
	}
	return true
}

func isCoordinate(n int) bool { return whole.IsFrom(n, -api.MaxRdPlace, api.MaxRdPlace) }

// IsPatch reports whether a patch has points, and only places.
func IsPatch(p api.RdPatch) bool {
	return ArePlaces([2]int{p.X0, p.Y0}, [2]int{p.X1, p.Y1}) && p.X0 <= p.X1 && p.Y0 <= p.Y1
}

// Cut returns what some patches have of the places there are; those that have none are left out.
func Cut(patches []api.RdPatch) []api.RdPatch {
	var all []api.RdPatch
	for _, p := range patches {
		p = api.RdPatch{X0: max(p.X0, -api.MaxRdPlace), Y0: max(p.Y0, -api.MaxRdPlace), X1: min(p.X1, api.MaxRdPlace), Y1: min(p.Y1, api.MaxRdPlace)}
		if IsPatch(p) {
			all = append(all, p)
		}
	}
	return all
}

// IsHeading reports whether a number is one of a direction.
func IsHeading(n int) bool { return whole.IsFrom(n, -api.MaxRdHeading, api.MaxRdHeading) }

// IsDirection reports whether two numbers are a direction.
func IsDirection(dx, dy int) bool {
	return IsHeading(dx) && IsHeading(dy) && (dx != 0 || dy != 0)
}
