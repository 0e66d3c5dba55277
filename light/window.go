package light

import (
	"linkboy/api"
	"linkboy/lamp"
	"linkboy/road"
	"linkboy/whole"
)

// Window returns how much light a window gets at most.
func Window(s api.LtScene, front, window int) (int, api.Errno) {
	if e := errorOf(s); e != api.OK {
		return 0, e
	}
	box, e := road.Window(s.Road, front, window)
	if e != api.OK {
		return 0, e
	}
	return sum(s, func(l luminaire) api.Encl { return whole.Only(l.onWindow(front, box)) }).Hi, api.OK
}

// onWindow returns how much light a window of a front gets at most, which is in a box.
func (l luminaire) onWindow(front int, box api.RdBox) int {
	if faces, _ := road.Faces(l.scene, 0, front); !faces {
		return 0
	}
	c := l.column()
	base := api.RdPatch{X0: box.X0, Y0: box.Y0, X1: box.X1, Y1: box.Y1}
	depths := api.Encl{Lo: dm * (c.Height - box.High), Hi: dm * (c.Height - box.Low)}
	nearest := away(0, depths.Lo, depths.Hi).Lo
	square := squares(c, base).Lo + nearest*nearest
	return up.quotient(million*l.towardsWindow(base, depths), max(square, 1))
}

// towardsWindow returns the greatest intensity towards a window that is at these depths below the lamp, over a patch.
func (l luminaire) towardsWindow(base api.RdPatch, depths api.Encl) int {
	switch {
	case depths.Hi <= 0:
		return l.atMost(l.table().Sky)
	case depths.Lo <= 0:
		return l.atMost(brightest(l.table()))
	}
	r := frameFrom(l.column(), base)
	across, along := api.Encl{Lo: r.X0, Hi: r.X1}, api.Encl{Lo: r.Y0, Hi: r.Y1}
	across, along = lifted(across, depths), lifted(along, depths)
	r = api.LmRect{X0: across.Lo, X1: across.Hi, Y0: along.Lo, Y1: along.Hi}
	x, _ := lamp.Towards(l.catalog, 0, l.use, r, depths.Lo)
	return x.Hi
}

// lifted returns which offsets at the least of some depths have the directions of these ones at any of the depths.
func lifted(offsets, depths api.Encl) api.Encl {
	return api.Encl{
		Lo: min(offsets.Lo, down.quotient(offsets.Lo*depths.Lo, depths.Hi)),
		Hi: max(offsets.Hi, up.quotient(offsets.Hi*depths.Lo, depths.Hi)),
	}
}
