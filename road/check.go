package road

import (
	"linkboy/api"
	"linkboy/parts"
	"linkboy/plane"
	"linkboy/whole"
)

// Parts of a scene in which Check finds an error.
const (
	partAll     = 0
	partRoads   = 1
	partTrees   = 2
	partFronts  = 3
	partColumns = 4
)

// Check returns the part, the index in it and the error of a scene.
func Check(s api.RdScene) (part, at int, e api.Errno) {
	if len(s.Roads) > api.MaxRdRoads || len(s.Trees) > api.MaxRdTrees || len(s.Fronts) > api.MaxRdFronts || len(s.Columns) > api.MaxRdColumns {
		return partAll, 0, api.ErrLong
	}
	if at, e := parts.FirstNamedError(s.Roads, roadName, roadError); e != api.OK {
		return partRoads, at, e
	}
	if at, e := parts.FirstError(s.Trees, treeError); e != api.OK {
		return partTrees, at, e
	}
	if at, e := parts.FirstError(s.Fronts, frontError); e != api.OK {
		return partFronts, at, e
	}
	if at, e := parts.FirstNamedError(s.Columns, columnName, columnError); e != api.OK {
		return partColumns, at, e
	}
	return 0, 0, api.OK
}

func roadName(r *api.RdRoad) string { return r.Name }

func columnName(c *api.RdColumn) string { return c.Name }

// roadError returns the first error of a road, but for its name.
func roadError(_ []api.RdRoad, r *api.RdRoad) api.Errno {
	switch {
	case !whole.IsFrom(r.Kind, api.RdCarriage, api.RdCrossing):
		return api.ErrArg
	case len(r.Points) < 2:
		return api.ErrNone
	case len(r.Points) > api.MaxRdPoints:
		return api.ErrLong
	case !plane.ArePlaces(r.Points...) || !whole.IsFrom(r.Width, api.MinRdWidth, api.MaxRdWidth):
		return api.ErrRange
	case hasEmptyPiece(r) || r.Kind == api.RdCrossing && len(r.Points) > 2:
		return api.ErrArg
	}
	return api.OK
}

// treeError returns the error of a tree.
func treeError(_ []api.RdTree, t *api.RdTree) api.Errno {
	if !plane.ArePlaces([2]int{t.X, t.Y}) || !whole.IsFrom(t.R, 1, api.MaxRdCrown) || !areHeights(t.Low, t.High) {
		return api.ErrRange
	}
	return api.OK
}

// frontError returns the first error of a front.
func frontError(_ []api.RdFront, f *api.RdFront) api.Errno {
	switch {
	case !plane.ArePlaces(f.A, f.B):
		return api.ErrRange
	case f.A == f.B:
		return api.ErrArg
	case len(f.Windows) > api.MaxRdWindows:
		return api.ErrLong
	case !areWindows(f.Windows):
		return api.ErrRange
	}
	return api.OK
}

// columnError returns the first error of a column, but for its name.
func columnError(_ []api.RdColumn, c *api.RdColumn) api.Errno {
	switch {
	case !plane.ArePlaces([2]int{c.X, c.Y}) || !whole.IsFrom(c.Height, 1, api.MaxRdHeight) || !plane.IsHeading(c.DX) || !plane.IsHeading(c.DY):
		return api.ErrRange
	case c.DX == 0 && c.DY == 0:
		return api.ErrArg
	}
	return api.OK
}

func hasEmptyPiece(r *api.RdRoad) bool {
	for from, to := range pieces(r) {
		if from == to {
			return true
		}
	}
	return false
}

func areWindows(windows []api.RdWindow) bool {
	for _, w := range windows {
		if !areEnds(w.From, w.To, api.All) || !areHeights(w.Low, w.High) {
			return false
		}
	}
	return true
}

func areHeights(low, high int) bool { return areEnds(low, high, api.MaxRdTall) }

// areEnds reports whether two numbers ascend, from 0 to most.
func areEnds(low, high, most int) bool { return 0 <= low && low < high && high <= most }

// errorOf returns the error of a scene, or of an index of a list of its, which has so many elements.
func errorOf(s api.RdScene, index, count int) api.Errno {
	if _, _, e := Check(s); e != api.OK {
		return e
	}
	if !whole.IsIndex(index, count) {
		return api.ErrNone
	}
	return api.OK
}

// patchError returns the error of a scene, of an index, or of a patch.
func patchError(s api.RdScene, index, count int, p api.RdPatch) api.Errno {
	if e := errorOf(s, index, count); e != api.OK {
		return e
	}
	if !plane.IsPatch(p) {
		return api.ErrRange
	}
	return api.OK
}
