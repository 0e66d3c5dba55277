package light

import (
	"slices"

	"linkboy/api"
	"linkboy/lamp"
	"linkboy/road"
	"linkboy/whole"
)

// Parts of a scene in which Check finds an error.
const (
	partCatalog = 1
	partRoad    = 2
	partSurface = 3
	partColumns = 4
)

// Check checks a scene.
func Check(s api.LtScene) (part, at int, e api.Errno) {
	if _, _, e := lamp.Check(s.Catalog); e != api.OK {
		return partCatalog, 0, e
	}
	if _, _, e := road.Check(s.Road); e != api.OK {
		return partRoad, 0, e
	}
	if e := surfaceError(s); e != api.OK {
		return partSurface, 0, e
	}
	if len(s.Lamps) != len(s.Road.Columns) || len(s.Uses) != len(s.Road.Columns) {
		return partColumns, 0, api.ErrArg
	}
	for at := range s.Road.Columns {
		if e := columnError(s, at); e != api.OK {
			return partColumns, at, e
		}
	}
	return 0, 0, api.OK
}

// errorOf returns the error of a scene.
func errorOf(s api.LtScene) api.Errno {
	_, _, e := Check(s)
	return e
}

// surfaceError returns the first error of the surface of a scene.
func surfaceError(s api.LtScene) api.Errno {
	if s.Surface == -1 {
		return api.OK
	}
	if !whole.IsIndex(s.Surface, len(s.Catalog.Tables)) {
		return api.ErrNone
	}
	// A surface sends no light to the sky.
	if t := &s.Catalog.Tables[s.Surface]; max(greatest(t), t.Side) > api.MaxReflect {
		return api.ErrRange
	}
	return api.OK
}

// columnError returns the first error of the lamp of a column, and of its use.
func columnError(s api.LtScene, at int) api.Errno {
	switch {
	case !whole.IsFrom(s.Lamps[at], -1, len(s.Catalog.Lamps)-1):
		return api.ErrNone
	case !isUse(s.Uses[at]) || s.Lamps[at] >= 0 && isTooBright(s.Catalog, s.Lamps[at]):
		return api.ErrRange
	}
	return api.OK
}

// isUse reports whether the numbers of a use are in their ranges, which lamp says only of lamps.
func isUse(u api.LmUse) bool {
	return whole.IsFrom(u.Hours, 0, api.MaxHours) && whole.IsFrom(u.Months, 0, api.MaxMonths) && whole.IsFrom(u.Level, 0, api.All)
}

func isTooBright(c api.LmCatalog, index int) bool {
	l := &c.Lamps[index]
	return brightest(&c.Tables[l.Table])*l.Lumens > tableLumens*api.MaxBeam
}

// brightest returns the greatest intensity of a table in any direction.
func brightest(t *api.LmTable) int { return max(greatest(t), t.Side, t.Sky) }

// greatest returns the greatest one of the values of a table.
func greatest(t *api.LmTable) int {
	most := 0
	for _, row := range t.Values {
		most = max(most, slices.Max(row))
	}
	return most
}
