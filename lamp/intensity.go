package lamp

import (
	"iter"

	"linkboy/api"
	"linkboy/whole"
)

const (
	tableLumens = 1000 // for which a table is written
	unit        = 1000 // the tangent of 45 degrees, in per mille
)

// Intensity returns the intensity of a table in the direction of a point.
func Intensity(c api.LmCatalog, table, dx, dy, h int) (api.Encl, api.Errno) {
	return Over(c, table, api.LmRect{X0: dx, X1: dx, Y0: dy, Y1: dy}, h)
}

// Over returns the intensities of a table in the directions of all points of a rectangle.
func Over(c api.LmCatalog, table int, r api.LmRect, h int) (api.Encl, api.Errno) {
	if e := errorOf(c, table, len(c.Tables)); e != api.OK {
		return api.Encl{}, e
	}
	if e := rectError(r, h); e != api.OK {
		return api.Encl{}, e
	}
	return over(c.Tables[table], r, h), api.OK
}

// rectError returns the error of a rectangle at a depth.
func rectError(r api.LmRect, h int) api.Errno {
	switch {
	case !whole.IsFrom(h, 1, api.MaxLmHeight) || !whole.AreFrom([]int{r.X0, r.X1, r.Y0, r.Y1}, -api.MaxOffset, api.MaxOffset):
		return api.ErrRange
	case r.X0 > r.X1 || r.Y0 > r.Y1:
		return api.ErrArg
	}
	return api.OK
}

// over encloses the intensities in the directions of all points of a rectangle. All tangents are taken h times, which makes them integers.
func over(t api.LmTable, r api.LmRect, h int) api.Encl {
	across := span{unit * r.X0, unit * r.X1}
	along := span{unit * r.Y0, unit * r.Y1}
	var found []api.Encl
	for u, v := range crossings(across.stops(t.Us, h), along.stops(t.Vs, h)) {
		found = append(found, interpolated(t, placeOf(t.Us, u, h), placeOf(t.Vs, v, h)))
	}
	if !across.isIn(t.Us, h) || !along.isIn(t.Vs, h) {
		found = append(found, api.Encl{Hi: t.Side})
	}
	return whole.Join(found[0], found[1:]...)
}

// span is from which tangent to which one something goes.
type span struct{ from, to int }

// isIn reports whether both ends of a span are in a list of tangents.
func (s span) isIn(tangents []int, h int) bool {
	return tangents[0]*h <= s.from && s.to <= tangents[len(tangents)-1]*h
}

// stops returns the ends of a span that are in a list of tangents, and those of the list between them.
func (s span) stops(tangents []int, h int) []int {
	var all []int
	for _, end := range []int{s.from, s.to} {
		if (span{end, end}).isIn(tangents, h) {
			all = append(all, end)
		}
	}
	for _, t := range tangents {
		if whole.IsFrom(t*h, s.from, s.to) {
			all = append(all, t*h)
		}
	}
	return all
}

// crossings yields all pairs of one of us and one of vs.
func crossings(us, vs []int) iter.Seq2[int, int] {
	return func(yield func(u, v int) bool) {
		for _, u := range us {
			for _, v := range vs {
				if !yield(u, v) {
					return
				}
			}
		}
	}
}

// place is where a tangent is between two neighbours of a list: the index of the first one, and the weights of both, out of their sum.
type place struct{ at, first, second, all int }

func placeOf(tangents []int, x, h int) place {
	at := 0
	for at < len(tangents)-2 && tangents[at+1]*h <= x {
		at++
	}
	from, to := tangents[at]*h, tangents[at+1]*h
	return place{at, to - x, x - from, to - from}
}

// between encloses what is at a place, between what is at both neighbours.
func (p place) between(a, b api.Encl) api.Encl {
	return api.Encl{
		Lo: whole.Down(p.first*a.Lo+p.second*b.Lo, p.all),
		Hi: whole.Up(p.first*a.Hi+p.second*b.Hi, p.all),
	}
}

// interpolated encloses the intensity at a place across and one along.
func interpolated(t api.LmTable, across, along place) api.Encl {
	inRow := func(row []int) api.Encl {
		return along.between(whole.Only(row[along.at]), whole.Only(row[along.at+1]))
	}
	return across.between(inRow(t.Values[across.at]), inRow(t.Values[across.at+1]))
}
