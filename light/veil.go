package light

import (
	"linkboy/api"
	"linkboy/plane"
)

const (
	unit    = 1000 // the tangent of 45 degrees, in per mille
	million = 1000000
)

// veil encloses the veil at a view.
func (l luminaire) veil(v api.LtView) api.Encl {
	c := l.column()
	eye, direction := plane.Vector{X: v.X, Y: v.Y}, plane.Vector{X: v.DX, Y: v.DY}
	way := plane.Vector{X: c.X, Y: c.Y}.Minus(eye)
	height := dm*c.Height - api.LtEye
	ahead, aside := way.Dot(direction), way.Cross(direction)
	off := aside*aside + height*height*direction.Dot(direction)
	if height <= 0 || ahead <= 0 || off > ahead*ahead {
		return api.Encl{}
	}
	tangent := api.Encl{
		Lo: max(down.quotient(unit*down.root(off), ahead), api.LtNear),
		Hi: max(up.quotient(unit*up.root(off), ahead), api.LtNear),
	}
	return veilAt(eyeLight(l.towards(plane.PatchOf(eye), height), way.Dot(way)+height*height), tangent)
}

// eyeLight encloses the light on an eye, which looks at most 45 degrees away, of an intensity at a distance with this square.
func eyeLight(intensity api.Encl, square int) api.Encl {
	return api.Encl{
		Lo: down.quotient(707*down.quotient(million*intensity.Lo, square), 1000), // by the cosine of 45 degrees
		Hi: up.quotient(million*intensity.Hi, square),
	}
}

// veilAt encloses the veil that light on an eye makes under an angle with this tangent.
func veilAt(light, tangent api.Encl) api.Encl {
	lo, hi := down.quotient, up.quotient
	one := million + tangent.Hi*tangent.Hi
	return api.Encl{
		Lo: lo(10000*lo(million*light.Lo, tangent.Hi*tangent.Hi), 3283), // 57.297 squared
		Hi: hi(10000*hi(light.Hi*hi(one*one, million), tangent.Lo*tangent.Lo), 3282),
	}
}
