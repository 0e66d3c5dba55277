package light

import (
	"math/rand"
	"strconv"

	"linkboy/api"
)

// from returns a random number from least to most.
func from(r *rand.Rand, least, most int) int { return least + r.Intn(most-least+1) }

// tangents returns from two to five tangents that ascend, often over their whole range.
func tangents(r *rand.Rand) []int {
	n := from(r, 2, 5)
	if r.Intn(2) == 0 {
		return []int{-api.MaxTan, -r.Intn(3000), 1 + r.Intn(3000), api.MaxTan}
	}
	all := []int{from(r, -api.MaxTan, -1000)}
	for len(all) < n {
		all = append(all, all[len(all)-1]+from(r, 1, 1500))
	}
	return all
}

func randomTable(r *rand.Rand, name string, most int) api.LmTable {
	t := api.LmTable{Name: name, Us: tangents(r), Vs: tangents(r), Side: r.Intn(most/10 + 1), Sky: r.Intn(most/10 + 1)}
	for range t.Us {
		var row []int
		for range t.Vs {
			row = append(row, r.Intn(most+1))
		}
		t.Values = append(t.Values, row)
	}
	return t
}

// randomCatalog returns two tables, a surface and three lamps.
func randomCatalog(r *rand.Rand) api.LmCatalog {
	c := api.LmCatalog{Tables: []api.LmTable{randomTable(r, "a", 1000), randomTable(r, "b", 50000), randomTable(r, "surface", []int{1000, api.MaxReflect}[r.Intn(2)])}}
	c.Tables[2].Sky = r.Intn(api.MaxIntensity) // no reflectance
	for i, name := range []string{"first", "second", "third"} {
		power := from(r, 1, 200000)
		c.Lamps = append(c.Lamps, api.LmLamp{
			Name: name, Table: i % 2, Kind: api.LmSodium, Lumens: from(r, 1, []int{2000, 20000, 100000}[r.Intn(3)]),
			Power: power, Standing: r.Intn(power + 1), Tolerance: r.Intn(100), Life: 1000, Dim: r.Intn(1001), Restrike: r.Intn(60),
			Ageing: api.Encl{Lo: r.Intn(5), Hi: 5 + r.Intn(5)}, Dirt: api.Encl{Lo: r.Intn(3), Hi: 3 + r.Intn(3)},
		})
	}
	return c
}

func randomUse(r *rand.Rand) api.LmUse {
	return api.LmUse{Hours: r.Intn(120000), Months: r.Intn(200), Level: from(r, 0, 1000)}
}

// randomDirection returns a direction, in some of which lengths are integers.
func randomDirection(r *rand.Rand) (dx, dy int) {
	if r.Intn(3) == 0 {
		d := [][2]int{{0, 1}, {1, 0}, {0, -1}, {-1, 0}, {3, 4}, {-600, 800}, {1000, 1000}, {-1000, -1000}}[r.Intn(8)]
		return d[0], d[1]
	}
	for dx == 0 && dy == 0 {
		dx, dy = from(r, -1000, 1000), from(r, -1000, 1000)
	}
	return dx, dy
}

// place returns a random coordinate of a place.
func place(r *rand.Rand, size int) int { return from(r, -size, size) }

// randomScene returns a scene whose places are at most so far from the middle.
func randomScene(r *rand.Rand, size int) api.LtScene {
	s := api.LtScene{Catalog: randomCatalog(r), Surface: 2}
	for i := range from(r, 1, 4) {
		dx, dy := randomDirection(r)
		s.Road.Columns = append(s.Road.Columns, api.RdColumn{Name: "c" + strconv.Itoa(i), X: place(r, size), Y: place(r, size), Height: from(r, 1, []int{30, 120, 200}[r.Intn(3)]), DX: dx, DY: dy})
		s.Lamps = append(s.Lamps, from(r, -1, 2))
		s.Uses = append(s.Uses, randomUse(r))
	}
	for range r.Intn(3) {
		low := r.Intn(60)
		x, y := near(r, s)
		s.Road.Trees = append(s.Road.Trees, api.RdTree{X: x, Y: y, R: from(r, 1, min(size/2, api.MaxRdCrown)), Low: low, High: low + from(r, 1, 100)})
	}
	for range from(r, 1, 2) {
		s.Road.Fronts = append(s.Road.Fronts, randomFront(r, size))
	}
	s.Road.Roads = []api.RdRoad{{Name: "a", Points: [][2]int{{place(r, size), place(r, size)}, {size, place(r, size)}}, Width: from(r, api.MinRdWidth, min(size, api.MaxRdWidth))}}
	return s
}

func randomFront(r *rand.Rand, size int) api.RdFront {
	f := api.RdFront{A: [2]int{place(r, size), place(r, size)}, B: [2]int{size, place(r, size) / 2}}
	if f.A == f.B {
		f.A[0]--
	}
	for range from(r, 1, 3) {
		begin, low := r.Intn(1000), r.Intn(100)
		f.Windows = append(f.Windows, api.RdWindow{From: begin, To: from(r, begin+1, 1000), Low: low, High: low + from(r, 1, 40)})
	}
	return f
}

// near returns a place near a column.
func near(r *rand.Rand, s api.LtScene) (x, y int) {
	c := s.Road.Columns[r.Intn(len(s.Road.Columns))]
	return within(c.X+place(r, 400*c.Height), api.MaxRdPlace), within(c.Y+place(r, 400*c.Height), api.MaxRdPlace)
}

// randomPatch returns a patch near a column, which is often small, or a point.
func randomPatch(r *rand.Rand, s api.LtScene) api.RdPatch {
	x, y := near(r, s)
	extent := []int{1, 1000, 10000, 2 * api.MaxRdPlace}[r.Intn(4)]
	return api.RdPatch{X0: x, Y0: y, X1: within(x+r.Intn(extent), api.MaxRdPlace), Y1: within(y+r.Intn(extent), api.MaxRdPlace)}
}

// randomView returns a view from near a column, which often looks to one.
func randomView(r *rand.Rand, s api.LtScene) api.LtView {
	x, y := near(r, s)
	dx, dy := randomDirection(r)
	c := s.Road.Columns[r.Intn(len(s.Road.Columns))]
	if x, y := (c.X-x)/200, (c.Y-y)/200; r.Intn(2) == 0 && (x != 0 || y != 0) {
		dx, dy = within(x, 1000), within(y, 1000)
	}
	return api.LtView{X: x, Y: y, DX: dx, DY: dy}
}

// sizeOf returns a random size of a scene.
func sizeOf(r *rand.Rand) int { return []int{1000, 15000, 15000, api.MaxRdPlace}[r.Intn(4)] }
