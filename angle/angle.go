// Package angle is layer 1: least enclosures of sines, angles, roots and sums, and angles on the earth as strings.
package angle

import (
	"sort"

	"linkboy/api"
	"linkboy/whole"
)

const (
	right = 90 * api.Degree
	turn  = 360 * api.Degree
)

// Sin returns the least enclosure of the sine of an angle, in hundred-millionths.
func Sin(a int) (api.Encl, api.Errno) { return SinOf(api.Encl{Lo: a, Hi: a}) }

// Cos returns the least enclosure of the cosine of an angle, in hundred-millionths.
func Cos(a int) (api.Encl, api.Errno) { return CosOf(api.Encl{Lo: a, Hi: a}) }

// SinOf returns the least enclosure of the sines of all angles of an enclosure, in hundred-millionths.
func SinOf(a api.Encl) (api.Encl, api.Errno) {
	if !whole.IsWithin(a, -api.MaxAngle, api.MaxAngle) {
		return api.Encl{}, api.ErrRange
	}
	return sines(a.Lo, a.Hi), api.OK
}

// CosOf returns the least enclosure of the cosines of all angles of an enclosure, in hundred-millionths.
func CosOf(a api.Encl) (api.Encl, api.Errno) {
	if !whole.IsWithin(a, -api.MaxAngle, api.MaxAngle) {
		return api.Encl{}, api.ErrRange
	}
	return sines(a.Lo+right, a.Hi+right), api.OK
}

// Arccos returns the least enclosure of the angles from 0 to 180 degrees whose cosine is in x, in millionths of a degree.
func Arccos(x api.Encl) (api.Encl, api.Errno) {
	a, e := Arcsin(x)
	if e != api.OK {
		return api.Encl{}, e
	}
	return api.Encl{Lo: right - a.Hi, Hi: right - a.Lo}, api.OK
}

// Arcsin returns the least enclosure of the angles from -90 to 90 degrees whose sine is in x, in millionths of a degree.
func Arcsin(x api.Encl) (api.Encl, api.Errno) {
	if !whole.IsWithin(x, -api.One, api.One) {
		return api.Encl{}, api.ErrRange
	}
	return api.Encl{Lo: -arcAbove(-x.Lo), Hi: arcAbove(x.Hi)}, api.OK
}

// sines encloses the sines of all angles from lo to hi.
func sines(lo, hi int) api.Encl {
	all := whole.Join(sine(lo), sine(hi))
	if passes(lo, hi, right) {
		all.Hi = api.One
	}
	if passes(lo, hi, -right) {
		all.Lo = -api.One
	}
	return all
}

// passes reports whether a, or a and some whole turns, is from lo to hi.
func passes(lo, hi, a int) bool {
	return lo+reduced(a-lo) <= hi
}

// reduced returns an angle less as many whole turns that it is from 0 to below one.
func reduced(a int) int {
	a %= turn
	if a < 0 {
		a += turn
	}
	return a
}

// arcAbove returns the least angle from -90 to 90 degrees whose sine is at least x.
func arcAbove(x int) int {
	return sort.Search(2*right, func(i int) bool { return sine(i-right).Lo >= x }) - right
}
