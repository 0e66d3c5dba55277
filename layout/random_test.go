package layout

import (
	"math/rand"
	"strconv"

	"linkboy/api"
	"linkboy/light"
)

// from returns a random number from least to most.
func from(r *rand.Rand, least, most int) int { return least + r.Intn(most-least+1) }

// place returns a random coordinate not far from the middle.
func place(r *rand.Rand) int { return from(r, -20000, 20000) }

// randomDirection returns a random direction, often along an axis.
func randomDirection(r *rand.Rand) (dx, dy int) {
	if r.Intn(2) == 0 {
		d := [][2]int{{0, 1}, {1, 0}, {0, -1}, {-1, 0}}[r.Intn(4)]
		return d[0], d[1]
	}
	for dx == 0 && dy == 0 {
		dx, dy = from(r, -1000, 1000), from(r, -1000, 1000)
	}
	return dx, dy
}

// randomTable returns a table with intensities, or reflectances, in nearly all directions.
func randomTable(r *rand.Rand, name string, least, most int) api.LmTable {
	t := api.LmTable{Name: name, Us: []int{-api.MaxTan, from(r, -1000, 1000), api.MaxTan}, Vs: []int{-api.MaxTan, from(r, -1000, 1000), api.MaxTan}, Side: r.Intn(least + 1), Sky: r.Intn(least + 1)}
	for range t.Us {
		t.Values = append(t.Values, []int{from(r, least, most), from(r, least, most), from(r, least, most)})
	}
	return t
}

// randomCatalog returns a catalogue with a surface, and three lamps, of which the last one is sometimes too bright.
func randomCatalog(r *rand.Rand) api.LmCatalog {
	c := api.LmCatalog{Tables: []api.LmTable{randomTable(r, "a", 50, 500), randomTable(r, "b", 100, 300), randomTable(r, "surface", 100, 2000), randomTable(r, "beam", 1, 2)}}
	c.Tables[3].Values[1][1] = api.MaxIntensity
	for i := range 3 {
		power := from(r, 20000, 90000)
		l := api.LmLamp{Name: "l" + strconv.Itoa(i), Table: i % 2, Kind: api.LmSodium, Lumens: from(r, 5000, 20000), Power: power, Standing: r.Intn(5000), Tolerance: r.Intn(100), Life: 1000}
		l.Ageing.Hi, l.Dirt.Hi = r.Intn(5), r.Intn(5)
		c.Lamps = append(c.Lamps, l)
	}
	if r.Intn(3) == 0 {
		c.Lamps[2].Table, c.Lamps[2].Lumens = 3, 10001
	}
	return c
}

// randomRoads returns one or two short roads, and what stands beside them.
func randomRoads(r *rand.Rand) api.RdScene {
	var s api.RdScene
	for i := range from(r, 1, 2) {
		s.Roads = append(s.Roads, api.RdRoad{Name: "r" + strconv.Itoa(i), Kind: r.Intn(3), Points: [][2]int{{-15000 + r.Intn(5000), place(r) / 3}, {10000 + r.Intn(5000), place(r) / 3}}, Width: from(r, 1000, 8000)})
	}
	for range r.Intn(2) {
		s.Trees = append(s.Trees, api.RdTree{X: place(r), Y: place(r), R: from(r, 1, 2000), Low: r.Intn(20), High: from(r, 21, 60)})
	}
	for range r.Intn(3) {
		f := api.RdFront{A: [2]int{20000, 10000 + place(r)/2}, B: [2]int{-20000, 10000 + place(r)/2}}
		for range r.Intn(3) {
			f.Windows = append(f.Windows, api.RdWindow{From: r.Intn(500), To: from(r, 501, 1000), Low: r.Intn(30), High: from(r, 31, 100)})
		}
		s.Fronts = append(s.Fronts, f)
	}
	return s
}

func randomSites(r *rand.Rand) (all []api.LoSite) {
	for range from(r, 1, 8) {
		dx, dy := randomDirection(r)
		all = append(all, api.LoSite{Right: r.Intn(2) == 0, X: place(r), Y: place(r) / 3, DX: dx, DY: dy})
	}
	return all
}

// randomTask returns a task that some of its layouts meet, often: its limits are about those of one of them.
func randomTask(r *rand.Rand) api.LoTask {
	t := api.LoTask{Scene: api.LtScene{Catalog: randomCatalog(r), Surface: 2, Road: randomRoads(r)}, Sites: randomSites(r), Steps: from(r, 1, 2), Goal: from(r, api.LoCheap, api.LoSaving), Hours: r.Intn(50000), PerKwh: r.Intn(100)}
	for range from(r, 1, 2) {
		t.Poles = append(t.Poles, api.LoPole{Height: from(r, 30, 150), Price: 1000 * r.Intn(100)})
	}
	for range from(r, 1, 3) {
		t.Lamps = append(t.Lamps, api.LoLamp{Lamp: r.Intn(3), Price: 1000 * r.Intn(100), Hours: r.Intn(50000), Months: r.Intn(60)})
	}
	for _, level := range [][]int{{1000}, {400, 700}, {300, 650, 1000}}[r.Intn(3)] {
		t.Levels = append(t.Levels, level-r.Intn(100))
	}
	for range r.Intn(3) {
		n := api.LoNeed{Road: r.Intn(len(t.Scene.Road.Roads)), Class: api.LtClass{Kind: from(r, api.LtLux, api.LtBright), Step: from(r, 4000, 9000)}}
		n.Class.DX, n.Class.DY = randomDirection(r)
		t.Needs = append(t.Needs, n)
	}
	setLimits(r, &t)
	return t
}

// randomLayout returns one of the layouts of a task.
func randomLayout(r *rand.Rand, t *api.LoTask) api.LoLayout { return layoutAt(t, r.Intn(count(t))) }

// setLimits asks of all layouts what one of them just about does.
func setLimits(r *rand.Rand, t *api.LoTask) {
	s := sceneOf(t, randomLayout(r, t))
	t.Sky, _ = light.Sky(s)
	for front, f := range s.Road.Fronts {
		for window := range f.Windows {
			most, _ := light.Window(s, front, window)
			t.Window = max(t.Window, most)
		}
	}
	for i := range t.Needs {
		c := &t.Needs[i].Class
		c.Glare = api.MaxGlare
		got, _ := light.Judge(s, t.Needs[i].Road, *c)
		c.Average, c.Least, c.Uniform, c.Glare = about(r, got.Average.Lo), about(r, got.Least.Lo), about(r, got.Uniform), min(about(r, 2*got.Glare), api.MaxGlare)
	}
	t.Sky, t.Window = about(r, 2*t.Sky), about(r, 2*t.Window)
}

// about returns a number that is not above a limit, often just it, and sometimes one above it.
func about(r *rand.Rand, n int) int {
	switch r.Intn(6) {
	case 0:
		return n
	case 1:
		return n/2 + r.Intn(n/2+1)
	case 2:
		return 0
	case 3:
		return min(n+1, 1000)
	}
	return n / 2
}
