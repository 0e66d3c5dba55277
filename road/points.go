package road

import (
	"cmp"
	"slices"

	"linkboy/api"
	"linkboy/plane"
)

// Standing returns the columns that stand where vehicles go.
func Standing(s api.RdScene) ([]int, api.Errno) {
	if _, _, e := Check(s); e != api.OK {
		return nil, e
	}
	var standing []int
	for at := range s.Columns {
		c := &s.Columns[at]
		if isInTheWay(s.Roads, plane.Vector{X: c.X, Y: c.Y}) {
			standing = append(standing, at)
		}
	}
	return standing, api.OK
}

// isInTheWay reports whether a place is on a road that is not for walkers alone.
func isInTheWay(roads []api.RdRoad, place plane.Vector) bool {
	for i := range roads {
		if r := &roads[i]; r.Kind != api.RdFoot && isOn(r, plane.PatchOf(place)) {
			return true
		}
	}
	return false
}

// Junctions returns the places at which roads meet.
func Junctions(s api.RdScene) ([]api.RdJunction, api.Errno) {
	if _, _, e := Check(s); e != api.OK {
		return nil, e
	}
	places := placesOf(s.Roads)
	slices.SortFunc(places, byPlace)
	return slices.DeleteFunc(places, func(j api.RdJunction) bool { return len(j.Roads) < 2 }), api.OK
}

// placesOf returns all places that are points of roads, each once and with the roads whose point it is.
func placesOf(roads []api.RdRoad) []api.RdJunction {
	var places []api.RdJunction
	for road := range roads {
		for _, p := range roads[road].Points {
			at := slices.IndexFunc(places, func(j api.RdJunction) bool { return j.X == p[0] && j.Y == p[1] })
			if at < 0 {
				at = len(places)
				places = append(places, api.RdJunction{X: p[0], Y: p[1]})
			}
			if !slices.Contains(places[at].Roads, road) {
				places[at].Roads = append(places[at].Roads, road)
			}
		}
	}
	return places
}

func byPlace(a, b api.RdJunction) int {
	return cmp.Or(cmp.Compare(a.X, b.X), cmp.Compare(a.Y, b.Y))
}

// Bends returns the points at which a road turns by a right angle or more.
func Bends(s api.RdScene, road int) ([]int, api.Errno) {
	if e := errorOf(s, road, len(s.Roads)); e != api.OK {
		return nil, e
	}
	var bends []int
	at, before := 0, plane.Vector{}
	for from, to := range pieces(&s.Roads[road]) {
		after := to.Minus(from)
		if at > 0 && before.Dot(after) <= 0 {
			bends = append(bends, at)
		}
		at, before = at+1, after
	}
	return bends, api.OK
}
