package lamp

import (
	"linkboy/api"
	"linkboy/whole"
)

// Share returns which share of the light goes where a table says.
func Share(c api.LmCatalog, table, split int) (api.Encl, api.Errno) {
	if e := errorOf(c, table, len(c.Tables)); e != api.OK {
		return api.Encl{}, e
	}
	if !whole.IsFrom(split, 1, api.MaxSplit) {
		return api.Encl{}, api.ErrRange
	}
	var millionths api.Encl
	t := c.Tables[table]
	for i := range len(t.Us) - 1 {
		for k := range len(t.Vs) - 1 {
			millionths = whole.Add(millionths, fieldShare(t, i, k, split))
		}
	}
	return api.Encl{Lo: whole.Down(millionths.Lo, api.All), Hi: whole.Up(millionths.Hi, api.All)}, api.OK
}

// fieldShare returns the share of a field, in millionths, from that of all of its parts.
func fieldShare(t api.LmTable, i, k, split int) (sum api.Encl) {
	near, far := t.Values[i], t.Values[i+1]
	values := whole.Join(whole.Only(near[k]), whole.Only(near[k+1]), whole.Only(far[k]), whole.Only(far[k+1]))
	for a := range split {
		across := partOf(t.Us, i, a, split)
		for b := range split {
			sum = whole.Add(sum, partShare(values, across, partOf(t.Vs, k, b, split)))
		}
	}
	return sum
}

// partOf returns a part of what is between a tangent and the next one.
func partOf(tangents []int, at, part, split int) span {
	from, width := tangents[at], tangents[at+1]-tangents[at]
	return span{from + width*part/split, from + width*(part+1)/split}
}

// partShare returns the share of a part of a field with the least and the greatest value, in millionths.
func partShare(values api.Encl, across, along span) api.Encl {
	us, vs := across.squares(), along.squares()
	nearest := whole.Root(unit*unit + us.Lo + vs.Lo).Lo
	furthest := whole.Root(unit*unit + us.Hi + vs.Hi).Hi
	size := (across.to - across.from) * (along.to - along.from) * unit
	return api.Encl{
		Lo: whole.Down(values.Lo*size, furthest*furthest*furthest),
		Hi: whole.Up(values.Hi*size, nearest*nearest*nearest),
	}
}

// squares encloses the squares of all tangents of a span.
func (s span) squares() api.Encl {
	all := whole.Join(whole.Only(s.from*s.from), whole.Only(s.to*s.to))
	if whole.IsFrom(0, s.from, s.to) {
		all.Lo = 0
	}
	return all
}
