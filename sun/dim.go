package sun

import (
	"slices"

	"linkboy/api"
	"linkboy/whole"
)

func isDimming(d *api.SnDim) bool {
	if !whole.IsFrom(len(d.Rows), 1, api.MaxSnRows) || d.Rows[0].From != 0 {
		return false
	}
	for i, r := range d.Rows {
		if !isTraffic(r.From) || !whole.IsFrom(r.Level, 0, api.All) || i > 0 && r.From <= d.Rows[i-1].From {
			return false
		}
	}
	return whole.IsFrom(d.Up, 1, api.All) && whole.IsFrom(d.Down, 1, api.All)
}

func isTraffic(vehicles int) bool { return whole.IsFrom(vehicles, 0, api.MaxTraffic) }

// levelFor returns the level for so many vehicles.
func levelFor(rows []api.SnRow, vehicles int) int {
	for _, r := range slices.Backward(rows) {
		if r.From <= vehicles {
			return r.Level
		}
	}
	return 0
}

// leastLevels returns the least levels that follow traffic. A level must be so high that the next ones can be reached, and no lower than the ones before can fall; what the second walk raises still lets the next level be reached, as that is raised with it.
func leastLevels(d *api.SnDim, vehicles []int) []int {
	levels := make([]int, len(vehicles))
	for i, n := range slices.Backward(vehicles) {
		levels[i] = levelFor(d.Rows, n)
		if i+1 < len(levels) {
			levels[i] = max(levels[i], levels[i+1]-d.Up)
		}
	}
	for i := 1; i < len(levels); i++ {
		levels[i] = max(levels[i], levels[i-1]-d.Down)
	}
	return levels
}
