package road

import (
	"cmp"
	"math/bits"

	"linkboy/api"
)

// vector is a place, or the way from one place to another one.
type vector struct{ x, y int }

func placeOf(p [2]int) vector { return vector{p[0], p[1]} }

// minus returns the way from w to v.
func (v vector) minus(w vector) vector { return vector{v.x - w.x, v.y - w.y} }

// dot returns the scalar product of two vectors.
func (v vector) dot(w vector) int { return v.x*w.x + v.y*w.y }

// cross returns the vector product of two vectors: it is above 0 if w points to the left of v.
func (v vector) cross(w vector) int { return v.x*w.y - v.y*w.x }

// wide is a number of 128 bits.
type wide struct{ high, low uint64 }

// product returns the product of two numbers, neither of which is below 0.
func product(a, b int) wide {
	high, low := bits.Mul64(uint64(a), uint64(b))
	return wide{high, low}
}

func (w wide) isAtMost(x wide) bool {
	return w == x || w.high < x.high || w.high == x.high && w.low < x.low
}

// isNear reports whether the origin is no farther than reach from the straight line from a to b. The squares of what it gets have to be below 2^62.
func isNear(a, b vector, reach int) bool {
	way := b.minus(a)
	switch {
	case a.dot(way) >= 0: // a is the nearest point
		return a.dot(a) <= reach*reach
	case b.dot(way) <= 0: // b is
		return b.dot(b) <= reach*reach
	}
	area := max(a.cross(b), -a.cross(b)) // the distance times the length of the way
	return product(area, area).isAtMost(product(reach*reach, way.dot(way)))
}

// surrounds reports whether the origin is strictly inside a convex face. A face without an area has no inside.
func surrounds(face [4]vector) bool {
	side := 0
	for i, a := range face {
		b := face[(i+1)%len(face)]
		if a == b { // a face may have fewer corners
			continue
		}
		now := cmp.Compare(a.cross(b), 0)
		if now == 0 || now == -side {
			return false
		}
		side = now
	}
	return side != 0
}

// patchOf returns the patch that has just one point.
func patchOf(v vector) api.RdPatch { return api.RdPatch{X0: v.x, Y0: v.y, X1: v.x, Y1: v.y} }

// corners returns the corners of a patch, one after the other around it.
func corners(p api.RdPatch) [4]vector {
	return [4]vector{{p.X0, p.Y0}, {p.X1, p.Y0}, {p.X1, p.Y1}, {p.X0, p.Y1}}
}
