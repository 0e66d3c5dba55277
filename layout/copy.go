package layout

import (
	"slices"

	"linkboy/api"
)

// copyOf returns the scene of a layout, which shares no more memory with its task; its columns, their lamps and uses never did.
func copyOf(s api.LtScene) api.LtScene {
	s.Catalog.Tables = copyEach(s.Catalog.Tables, separateTable)
	s.Catalog.Lamps = slices.Clone(s.Catalog.Lamps)
	s.Road.Roads = copyEach(s.Road.Roads, func(r *api.RdRoad) { r.Points = slices.Clone(r.Points) })
	s.Road.Trees = slices.Clone(s.Road.Trees)
	s.Road.Fronts = copyEach(s.Road.Fronts, func(f *api.RdFront) { f.Windows = slices.Clone(f.Windows) })
	return s
}

// separateTable gives a table memory of its own.
func separateTable(t *api.LmTable) {
	t.Us, t.Vs = slices.Clone(t.Us), slices.Clone(t.Vs)
	t.Values = copyEach(t.Values, func(row *[]int) { *row = slices.Clone(*row) })
}

// copyEach returns a copy of a list, each element of which is given memory of its own.
func copyEach[T any](list []T, separate func(one *T)) []T {
	list = slices.Clone(list)
	for at := range list {
		separate(&list[at])
	}
	return list
}
