package lamp

import (
	"slices"

	"linkboy/api"
	"linkboy/whole"
)

// Parts of a catalogue in which Check finds an error.
const (
	partAll    = 0
	partTables = 1
	partLamps  = 2
)

// Check checks a catalogue.
func Check(c api.LmCatalog) (part, at int, e api.Errno) {
	if len(c.Tables) > api.MaxTables || len(c.Lamps) > api.MaxLamps {
		return partAll, 0, api.ErrLong
	}
	for at := range c.Tables {
		if e := tableError(c, at); e != api.OK {
			return partTables, at, e
		}
	}
	for at := range c.Lamps {
		if e := lampError(c, at); e != api.OK {
			return partLamps, at, e
		}
	}
	return 0, 0, api.OK
}

// errorOf returns the error of a catalogue, or of an index of its tables or lamps, of which there are so many.
func errorOf(c api.LmCatalog, index, count int) api.Errno {
	if _, _, e := Check(c); e != api.OK {
		return e
	}
	if !whole.IsIndex(index, count) {
		return api.ErrNone
	}
	return api.OK
}

// tableError returns the first error of a table.
func tableError(c api.LmCatalog, at int) api.Errno {
	t := &c.Tables[at]
	switch {
	case !Name(t.Name):
		return api.ErrForm
	case tableOf(c.Tables, t.Name) < at:
		return api.ErrTwice
	case !whole.IsFrom(len(t.Us), 2, api.MaxGrid) || !whole.IsFrom(len(t.Vs), 2, api.MaxGrid):
		return api.ErrLong
	case !whole.AreFrom(t.Us, -api.MaxTan, api.MaxTan) || !whole.AreFrom(t.Vs, -api.MaxTan, api.MaxTan):
		return api.ErrRange
	case !ascend(t.Us) || !ascend(t.Vs):
		return api.ErrArg
	case !hasShape(t):
		return api.ErrForm
	case !areIntensities(t):
		return api.ErrRange
	}
	return api.OK
}

// lampError returns the first error of a lamp.
func lampError(c api.LmCatalog, at int) api.Errno {
	l := &c.Lamps[at]
	switch {
	case !Name(l.Name):
		return api.ErrForm
	case lampOf(c.Lamps, l.Name) < at:
		return api.ErrTwice
	case !whole.IsIndex(l.Table, len(c.Tables)):
		return api.ErrNone
	case !whole.IsFrom(l.Kind, api.LmLed, api.LmMetal):
		return api.ErrArg
	case !areInRange(l):
		return api.ErrRange
	case l.Kind == api.LmLed && l.Restrike != 0:
		return api.ErrArg
	}
	return api.OK
}

// hasShape reports whether a table has a value for each pair of tangents.
func hasShape(t *api.LmTable) bool {
	if !areAsMany(t.Values, t.Us) {
		return false
	}
	for _, row := range t.Values {
		if !areAsMany(row, t.Vs) {
			return false
		}
	}
	return true
}

// areIntensities reports whether all intensities of a table are in their range.
func areIntensities(t *api.LmTable) bool {
	for _, row := range t.Values {
		if !whole.AreFrom(row, 0, api.MaxIntensity) {
			return false
		}
	}
	return whole.IsFrom(t.Side, 0, api.MaxIntensity) && whole.IsFrom(t.Sky, 0, api.MaxIntensity)
}

// areInRange reports whether all numbers of a lamp are in their ranges.
func areInRange(l *api.LmLamp) bool {
	for _, f := range fields() {
		if !f.isInRange(l) {
			return false
		}
	}
	return l.Standing <= l.Power
}

// tableOf returns the index of the first table with a name, or -1.
func tableOf(tables []api.LmTable, name string) int {
	return slices.IndexFunc(tables, func(t api.LmTable) bool { return t.Name == name })
}

// lampOf returns the index of the first lamp with a name, or -1.
func lampOf(lamps []api.LmLamp, name string) int {
	return slices.IndexFunc(lamps, func(l api.LmLamp) bool { return l.Name == name })
}

// areAsMany reports whether two lists have the same number of elements.
func areAsMany[A, B any](list []A, other []B) bool { return len(list) == len(other) }

// ascend reports whether numbers ascend, each once.
func ascend(numbers []int) bool {
	for i := 1; i < len(numbers); i++ {
		if numbers[i-1] >= numbers[i] {
			return false
		}
	}
	return true
}
