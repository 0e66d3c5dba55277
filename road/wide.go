package road

import (
	"cmp"
	"math/bits"

	"linkboy/plane"
)

// wide is a number of 128 bits.
type wide struct{ high, low uint64 }

// product returns the product of two numbers, neither of which is below 0.
func product(a, b int) wide {
	high, low := bits.Mul64(uint64(a), uint64(b))
	return wide{high, low}
}

func (w wide) isAtMost(x wide) bool {
	return w == x || w.high < x.high || w.high == x.high && w.low < x.low
}

// isNear reports whether the origin is no farther than reach from the straight line from a to b. The squares of what it gets have to be below 2^62.
func isNear(a, b plane.Vector, reach int) bool {
	way := b.Minus(a)
	switch {
	case a.Dot(way) >= 0: // a is the nearest point
		return a.Dot(a) <= reach*reach
	case b.Dot(way) <= 0: // b is
		return b.Dot(b) <= reach*reach
	}
	area := max(a.Cross(b), -a.Cross(b)) // the distance times the length of the way
	return product(area, area).isAtMost(product(reach*reach, way.Dot(way)))
}

// surrounds reports whether the origin is strictly inside a convex face. A face without an area has no inside.
func surrounds(face [4]plane.Vector) bool {
	side := 0
	for i, a := range face {
		b := face[(i+1)%len(face)]
		if a == b { // a face may have fewer corners
			continue
		}
		now := cmp.Compare(a.Cross(b), 0)
		if now == 0 || now == -side {
			return false
		}
		side = now
	}
	return side != 0
}
