package road

import (
	"math/big"
	"math/rand"

	"linkboy/api"
)

// moving is a rectangle whose sides go straight: at the time t, its side i on an axis is at start + t speed. Its times are from first to last. Distances are those of its points from the origin.
type moving struct {
	start, speed [2][2]int // of the axes, and of the lower and the upper side
	first, last  *big.Rat
}

// strips returns a patch as a point sees it that goes from a to b.
func strips(a, b [2]int, p api.RdPatch) moving {
	m := moving{start: sides(p), first: new(big.Rat), last: big.NewRat(1, 1)}
	for axis := range m.start {
		for side := range m.start[axis] {
			m.start[axis][side] -= a[axis]
			m.speed[axis][side] = a[axis] - b[axis]
		}
	}
	return m
}

// beams returns where the light from a lamp to a patch is in the heights of a tree, as the axis of the tree sees it, or nil.
func beams(c api.RdColumn, tree api.RdTree, p api.RdPatch) *moving {
	if tree.Low > c.Height {
		return nil
	}
	m := moving{start: sides(p), first: part(tree.Low, c.Height), last: part(min(tree.High, c.Height), c.Height)}
	for side := range 2 {
		m.speed[0][side] = c.X - m.start[0][side]
		m.speed[1][side] = c.Y - m.start[1][side]
		m.start[0][side] -= tree.X
		m.start[1][side] -= tree.Y
	}
	return &m
}

func sides(p api.RdPatch) [2][2]int { return [2][2]int{{p.X0, p.X1}, {p.Y0, p.Y1}} }

func part(a, b int) *big.Rat { return big.NewRat(int64(a), int64(b)) }

// square returns the square of a by b.
func square(a, b int) *big.Rat {
	q := part(a, b)
	return q.Mul(q, q)
}

// leastSquare returns the square of the least distance: the distance is convex, and a square of t between the times at which a side passes an axis.
func (m moving) leastSquare() *big.Rat {
	times := []*big.Rat{m.first, m.last}
	for axis := range 2 {
		for side := range 2 {
			if v := m.speed[axis][side]; v != 0 {
				times = append(times, part(-m.start[axis][side], v))
			}
			for other := range 2 {
				times = append(times, m.stationary([2]int{side, other})...)
			}
			times = append(times, m.stationary([2]int{side, -1})...)
			times = append(times, m.stationary([2]int{-1, side})...)
		}
	}
	least := m.squareAt(m.first)
	for _, t := range times {
		if t.Cmp(m.first) < 0 || t.Cmp(m.last) > 0 {
			continue
		}
		if q := m.squareAt(t); q.Cmp(least) < 0 {
			least = q
		}
	}
	return least
}

// stationary returns the time at which the corner of these sides (or the side alone, if the other one is -1) is nearest.
func (m moving) stationary(sides [2]int) []*big.Rat {
	a, b := 0, 0
	for axis, side := range sides {
		if side >= 0 {
			a += m.speed[axis][side] * m.speed[axis][side]
			b += m.speed[axis][side] * m.start[axis][side]
		}
	}
	if a == 0 {
		return nil
	}
	return []*big.Rat{part(-b, a)}
}

// squareAt returns the square of the distance of the rectangle at a time.
func (m moving) squareAt(t *big.Rat) *big.Rat {
	sum := new(big.Rat)
	for axis := range 2 {
		low, high := m.at(axis, 0, t), m.at(axis, 1, t)
		switch {
		case low.Sign() > 0:
			sum.Add(sum, low.Mul(low, low))
		case high.Sign() < 0:
			sum.Add(sum, high.Mul(high, high))
		}
	}
	return sum
}

func (m moving) at(axis, side int, t *big.Rat) *big.Rat {
	way := part(m.speed[axis][side], 1)
	return way.Add(way.Mul(way, t), part(m.start[axis][side], 1))
}

// greatestSquare returns the square of the greatest distance that a corner has when it is nearest.
func (m moving) greatestSquare() *big.Rat {
	greatest := new(big.Rat)
	for i := range 4 {
		corner := m
		for axis, side := range [2]int{i % 2, i / 2} {
			corner.start[axis] = [2]int{m.start[axis][side], m.start[axis][side]}
			corner.speed[axis] = [2]int{m.speed[axis][side], m.speed[axis][side]}
		}
		if q := corner.leastSquare(); q.Cmp(greatest) > 0 {
			greatest = q
		}
	}
	return greatest
}

// randomScene returns a scene whose places are within size. Most of its numbers are tenths of size, so that many distances are those of an edge.
func randomScene(r *rand.Rand, size int) api.RdScene {
	var s api.RdScene
	for i := range r.Intn(4) {
		s.Roads = append(s.Roads, randomRoad(r, size, i))
	}
	for range r.Intn(4) {
		low := tens(r, 6)
		s.Trees = append(s.Trees, api.RdTree{X: within(r, size), Y: within(r, size), R: min(size/10*(1+r.Intn(5))+r.Intn(3)/2, api.MaxRdCrown), Low: low, High: low + tens(r, 6) + 1 + 9*r.Intn(2)})
	}
	for range r.Intn(3) {
		a := [2]int{within(r, size), within(r, size)}
		s.Fronts = append(s.Fronts, api.RdFront{A: a, B: other(r, size, a), Windows: []api.RdWindow{{From: r.Intn(500), To: 500 + r.Intn(501), Low: r.Intn(50), High: 50 + r.Intn(50)}}})
	}
	for i := range 1 + r.Intn(4) {
		s.Columns = append(s.Columns, api.RdColumn{Name: name("c", i), X: within(r, size), Y: within(r, size), Height: tens(r, 10) + 1 + 9*r.Intn(2), DX: 1 - 2*r.Intn(2), DY: r.Intn(100)})
	}
	return s
}

func randomRoad(r *rand.Rand, size, i int) api.RdRoad {
	road := api.RdRoad{Name: name("r", i), Kind: r.Intn(3), Width: max(api.MinRdWidth, min(size/5*(1+r.Intn(5))+r.Intn(3)/2, api.MaxRdWidth))}
	road.Points = [][2]int{{within(r, size), within(r, size)}}
	for range 1 + r.Intn(4) {
		road.Points = append(road.Points, other(r, size, road.Points[len(road.Points)-1]))
	}
	return road
}

func tens(r *rand.Rand, count int) int { return 10 * r.Intn(count) }

func name(word string, i int) string { return word + string(rune('0'+i)) }

// within returns a coordinate from -size to size.
func within(r *rand.Rand, size int) int {
	if r.Intn(4) != 0 {
		return size / 10 * (r.Intn(21) - 10)
	}
	return r.Intn(2*size+1) - size
}

// other returns a place that is not a; often it differs in one coordinate alone.
func other(r *rand.Rand, size int, a [2]int) [2]int {
	for {
		b := a
		switch r.Intn(3) {
		case 0:
			b[0] = within(r, size)
		case 1:
			b[1] = within(r, size)
		default:
			b = [2]int{within(r, size), within(r, size)}
		}
		if a != b {
			return b
		}
	}
}

// randomPatch returns a patch within size; some are points or lines.
func randomPatch(r *rand.Rand, size int) api.RdPatch {
	x0, x1, y0, y1 := within(r, size), within(r, size), within(r, size), within(r, size)
	switch r.Intn(6) {
	case 0:
		x1 = x0
	case 1:
		y1 = y0
	case 2:
		x1, y1 = x0, y0
	case 3, 4:
		x1, y1 = min(x0+r.Intn(size/4), size), min(y0+r.Intn(size/4), size)
	}
	return api.RdPatch{X0: min(x0, x1), Y0: min(y0, y1), X1: max(x0, x1), Y1: max(y0, y1)}
}
