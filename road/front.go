package road

import (
	"linkboy/api"
	"linkboy/plane"
	"linkboy/whole"
)

// Faces reports whether a lamp is on the street side of a front.
func Faces(s api.RdScene, column, front int) (bool, api.Errno) {
	if e := errorOf(s, column, len(s.Columns)); e != api.OK {
		return false, e
	}
	if !whole.IsIndex(front, len(s.Fronts)) {
		return false, api.ErrNone
	}
	f, c := &s.Fronts[front], &s.Columns[column]
	a, b := plane.Of(f.A), plane.Of(f.B)
	return b.Minus(a).Cross(plane.Vector{X: c.X, Y: c.Y}.Minus(a)) > 0, api.OK
}

// Window returns a box that contains a window.
func Window(s api.RdScene, front, window int) (api.RdBox, api.Errno) {
	if e := errorOf(s, front, len(s.Fronts)); e != api.OK {
		return api.RdBox{}, e
	}
	f := &s.Fronts[front]
	if !whole.IsIndex(window, len(f.Windows)) {
		return api.RdBox{}, api.ErrNone
	}
	w := f.Windows[window]
	x, y := span(f.A[0], f.B[0], w), span(f.A[1], f.B[1], w)
	return api.RdBox{X0: x.Lo, Y0: y.Lo, X1: x.Hi, Y1: y.Hi, Low: w.Low, High: w.High}, api.OK
}

// span returns the least enclosure of the coordinates of a window, for those of the ends of its front.
func span(a, b int, w api.RdWindow) api.Encl {
	return whole.Join(share(a, b, w.From), share(a, b, w.To))
}

// share returns the least enclosure of the coordinate that is some per mille of the way from a to b.
func share(a, b, part int) api.Encl {
	return whole.Quotient(a*(api.All-part)+b*part, api.All)
}
