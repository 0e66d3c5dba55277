package road

import (
	"math"
	"math/rand"
	"reflect"
	"slices"
	"testing"

	"linkboy/api"
	"linkboy/plane"
)

// crowded returns a scene with roads, trees and columns near each other, and a patch of some points among them.
func crowded(r *rand.Rand) (api.RdScene, api.RdPatch) {
	s := randomScene(r, 200)
	s.Roads = append(s.Roads, randomRoad(r, 200, 8))
	p := plane.PatchOf(plane.Vector{X: within(r, 190), Y: within(r, 190)})
	p.X1 += r.Intn(25)
	p.Y1 += r.Intn(25)
	return s, p
}

// points returns all points of a patch.
func points(p api.RdPatch) [][2]int {
	var all [][2]int
	for x := p.X0; x <= p.X1; x++ {
		for y := p.Y0; y <= p.Y1; y++ {
			all = append(all, [2]int{x, y})
		}
	}
	return all
}

// P3.7
func TestPatchesAndTheirPoints(t *testing.T) {
	r := rand.New(rand.NewSource(37))
	var meets, shades [3]int
	for range 4000 {
		s, p := crowded(r)
		meet, _ := Meets(s, 0, p)
		shade, _ := Shade(s, 0, p)
		meets[meet]++
		shades[shade]++
		on, shaded := 0, 0
		all := points(p)
		for _, q := range all {
			if is, _ := On(s, 0, q[0], q[1]); is {
				on++
			}
			if tree, _ := Shaded(s, 0, q[0], q[1]); tree >= 0 {
				shaded++
			}
		}
		if meet == api.RdAll && on != len(all) || meet == api.RdNone && on > 0 || len(all) == 1 && meet == api.RdSome {
			t.Fatalf("Meets(%v, %v) = %d, with %d of %d points", s.Roads[0], p, meet, on, len(all))
		}
		if shade == api.RdDark && shaded != len(all) || shade == api.RdLit && shaded > 0 || len(all) == 1 && shade == api.RdPart {
			t.Fatalf("Shade(%v, %v) = %d, with %d of %d points", s, p, shade, shaded, len(all))
		}
	}
	if slices.Min(meets[:]) < 50 || slices.Min(shades[:]) < 50 {
		t.Errorf("%v, %v results", meets, shades)
	}
}

// P3.8
func TestHalves(t *testing.T) {
	r := rand.New(rand.NewSource(38))
	for range 4000 {
		size := []int{200, 2000, 100000}[r.Intn(3)]
		s := randomScene(r, size)
		s.Roads = append(s.Roads, randomRoad(r, size, 8))
		p := randomPatch(r, size)
		one, two := p, p
		if r.Intn(2) == 0 {
			middle := p.X0 + r.Intn(p.X1-p.X0+1)
			one.X1, two.X0 = middle, middle
		} else {
			middle := p.Y0 + r.Intn(p.Y1-p.Y0+1)
			one.Y1, two.Y0 = middle, middle
		}
		all, _ := Meets(s, 0, p)
		a, _ := Meets(s, 0, one)
		b, _ := Meets(s, 0, two)
		if (all != api.RdNone) != (a != api.RdNone || b != api.RdNone) || all == api.RdAll && (a != api.RdAll || b != api.RdAll) {
			t.Fatalf("Meets(%v, %v) = %d, of its halves %d, %d", s.Roads[0], p, all, a, b)
		}
		all, _ = Shade(s, 0, p)
		a, _ = Shade(s, 0, one)
		b, _ = Shade(s, 0, two)
		if (all == api.RdLit) != (a == api.RdLit && b == api.RdLit) || all == api.RdDark && (a != api.RdDark || b != api.RdDark) {
			t.Fatalf("Shade(%v, %v) = %d, of its halves %d, %d", s, p, all, a, b)
		}
	}
}

// P3.9
func TestPatchesCoverTheRoad(t *testing.T) {
	r := rand.New(rand.NewSource(39))
	checked := 0
	for range 300 {
		size := []int{500, 3000, 100000}[r.Intn(3)]
		s := api.RdScene{Roads: []api.RdRoad{randomRoad(r, size, 0)}}
		step := 100 + r.Intn(size)
		squares, e := Patches(s, 0, step)
		if e != api.OK {
			continue
		}
		for range 200 {
			near := s.Roads[0].Points[r.Intn(len(s.Roads[0].Points))]
			x, y := near[0]+within(r, size), near[1]+within(r, size)
			if on, _ := On(s, 0, x, y); !on {
				continue
			}
			checked++
			if !slices.ContainsFunc(squares, func(p api.RdPatch) bool { return p.X0 <= x && x <= p.X1 && p.Y0 <= y && y <= p.Y1 }) {
				t.Fatalf("(%d, %d) of %v is in no square of step %d", x, y, s.Roads[0], step)
			}
		}
	}
	if checked < 3000 {
		t.Errorf("%d points", checked)
	}
}

// motion moves places, and turns headings.
type motion func(x, y int, isPlace bool) (int, int)

// moved returns a scene and a patch that are moved.
func moved(s api.RdScene, p api.RdPatch, m motion) (api.RdScene, api.RdPatch) {
	var n api.RdScene
	place := func(p [2]int) [2]int {
		x, y := m(p[0], p[1], true)
		return [2]int{x, y}
	}
	for _, r := range s.Roads {
		points := r.Points
		r.Points = nil
		for _, p := range points {
			r.Points = append(r.Points, place(p))
		}
		n.Roads = append(n.Roads, r)
	}
	for _, t := range s.Trees {
		t.X, t.Y = m(t.X, t.Y, true)
		n.Trees = append(n.Trees, t)
	}
	for _, f := range s.Fronts {
		f.A, f.B = place(f.A), place(f.B)
		n.Fronts = append(n.Fronts, f)
	}
	for _, c := range s.Columns {
		c.X, c.Y = m(c.X, c.Y, true)
		c.DX, c.DY = m(c.DX, c.DY, false)
		n.Columns = append(n.Columns, c)
	}
	a, b := place([2]int{p.X0, p.Y0}), place([2]int{p.X1, p.Y1})
	return n, api.RdPatch{X0: min(a[0], b[0]), Y0: min(a[1], b[1]), X1: max(a[0], b[0]), Y1: max(a[1], b[1])}
}

// answers returns all results that are the same for a moved scene.
func answers(s api.RdScene, p api.RdPatch) []any {
	var all []any
	for road := range s.Roads {
		a, _ := Meets(s, road, p)
		b, _ := On(s, road, p.X0, p.Y0)
		if p.X0 != p.X1 || p.Y0 != p.Y1 { // its first corner may be another one
			b = false
		}
		all = append(all, a, b)
	}
	for column := range s.Columns {
		a, _ := Shade(s, column, p)
		b, _ := Shaded(s, column, p.X0, p.Y0)
		if p.X0 != p.X1 || p.Y0 != p.Y1 {
			b = 0
		}
		all = append(all, a, b)
		for front := range s.Fronts {
			c, _ := Faces(s, column, front)
			all = append(all, c)
		}
	}
	return all
}

// P3.10
func TestMovedAndTurned(t *testing.T) {
	r := rand.New(rand.NewSource(310))
	quarter := func(x, y int, _ bool) (int, int) { return -y, x }
	for range 3000 {
		size := []int{200, 2000, 100000}[r.Intn(3)]
		s, p := randomScene(r, size), randomPatch(r, size)
		want := answers(s, p)
		dx, dy := within(r, 100000-size), within(r, 100000-size)
		if r.Intn(2) == 0 {
			dx, dy = size-100000, 100000-size
		}
		n, q := moved(s, p, func(x, y int, isPlace bool) (int, int) {
			if isPlace {
				return x + dx, y + dy
			}
			return x, y
		})
		if got := answers(n, q); !slices.Equal(got, want) {
			t.Fatalf("%v, %v: %v, moved by %d, %d: %v", s, p, want, dx, dy, got)
		}
		for turn := range 3 {
			s, p = moved(s, p, quarter)
			if got := answers(s, p); !slices.Equal(got, want) {
				t.Fatalf("%v, %v, after %d turns: %v, want %v", s, p, turn+1, got, want)
			}
		}
	}
}

// P3.10
func TestARoadIsTheSameBackwards(t *testing.T) {
	r := rand.New(rand.NewSource(3100))
	for range 2000 {
		size := []int{200, 2000, 100000}[r.Intn(3)]
		s := api.RdScene{Roads: []api.RdRoad{randomRoad(r, size, 0), randomRoad(r, size, 1)}}
		s.Roads[1].Points = slices.Clone(s.Roads[0].Points)
		s.Roads[1].Width = s.Roads[0].Width
		slices.Reverse(s.Roads[1].Points)
		p := randomPatch(r, size)
		a, _ := Meets(s, 0, p)
		b, _ := Meets(s, 1, p)
		c, _ := On(s, 0, p.X0, p.Y0)
		d, _ := On(s, 1, p.X0, p.Y0)
		if a != b || c != d {
			t.Fatalf("%v, %v: %d, %v, backwards %d, %v", s.Roads[0], p, a, c, b, d)
		}
	}
}

// P3.11
func TestMoreShade(t *testing.T) {
	r := rand.New(rand.NewSource(311))
	for range 4000 {
		size := []int{200, 2000, 100000}[r.Intn(3)]
		s, p := randomScene(r, size), randomPatch(r, size)
		more := s
		more.Trees = slices.Clone(s.Trees)
		if tree := r.Intn(len(s.Trees) + 1); tree == len(s.Trees) {
			more.Trees = slices.Insert(more.Trees, r.Intn(tree+1), api.RdTree{X: within(r, size), Y: within(r, size), R: 1 + r.Intn(size/5), Low: r.Intn(10), High: 10 + r.Intn(200)})
		} else {
			changed := &more.Trees[tree]
			switch r.Intn(3) {
			case 0:
				changed.R += r.Intn(api.MaxRdCrown - changed.R + 1)
			case 1:
				changed.High += r.Intn(200)
			case 2:
				changed.Low = r.Intn(changed.Low + 1)
			}
		}
		a, _ := Shade(s, 0, p)
		b, e := Shade(more, 0, p)
		if e != api.OK || b < a {
			t.Fatalf("%v, %v: %d, with %v %d", s, p, a, more.Trees, b)
		}
		c, _ := Shaded(s, 0, p.X0, p.Y1)
		d, _ := Shaded(more, 0, p.X0, p.Y1)
		if d < 0 && c >= 0 {
			t.Fatalf("%v, %v: %d, with %v %d", s, p, c, more.Trees, d)
		}
	}
}

// P3.11
func TestAWiderRoadHasMore(t *testing.T) {
	r := rand.New(rand.NewSource(3110))
	for range 3000 {
		size := []int{200, 2000, 100000}[r.Intn(3)]
		s := api.RdScene{Roads: []api.RdRoad{randomRoad(r, size, 0), randomRoad(r, size, 1)}}
		s.Roads[1].Points = s.Roads[0].Points
		s.Roads[1].Width = s.Roads[0].Width + r.Intn(api.MaxRdWidth-s.Roads[0].Width+1)
		p := randomPatch(r, size)
		a, _ := Meets(s, 0, p)
		b, _ := Meets(s, 1, p)
		c, _ := On(s, 0, p.X0, p.Y0)
		d, _ := On(s, 1, p.X0, p.Y0)
		if a > b || c && !d {
			t.Fatalf("%v, %v: %d, %v, wider %d, %v", s.Roads[0], p, a, c, b, d)
		}
	}
}

// extremes are integers at and beyond limits.
var extremes = []int{math.MinInt, math.MinInt + 1, -1 << 32, -100001, -100000, -1, 0, 1, 2, 99, 100, 200, 1000, 1001, 20000, 30001, 100000, 100001, 1 << 32, math.MaxInt - 1, math.MaxInt}

func extreme(r *rand.Rand) int { return extremes[r.Intn(len(extremes))] }

// strange returns a scene some of whose numbers, names and lists are any.
func strange(r *rand.Rand) api.RdScene {
	s := randomScene(r, []int{200, 100000}[r.Intn(2)])
	for i := range s.Roads {
		switch r.Intn(12) {
		case 0:
			s.Roads[i].Width = extreme(r)
		case 1:
			s.Roads[i].Kind = extreme(r)
		case 2:
			s.Roads[i].Points[r.Intn(len(s.Roads[i].Points))] = [2]int{extreme(r), extreme(r)}
		case 3:
			s.Roads[i].Points = s.Roads[i].Points[:r.Intn(3)%len(s.Roads[i].Points)]
		case 4:
			s.Roads[i].Name = []string{"", "é", "a\x00", "r0", "A"}[r.Intn(5)]
		}
	}
	for i := range s.Trees {
		if r.Intn(3) == 0 {
			s.Trees[i] = api.RdTree{X: extreme(r), Y: extreme(r), R: extreme(r), Low: extreme(r), High: extreme(r)}
		}
	}
	for i := range s.Fronts {
		if r.Intn(3) == 0 {
			s.Fronts[i].Windows = append(s.Fronts[i].Windows, api.RdWindow{From: extreme(r), To: extreme(r), Low: extreme(r), High: extreme(r)})
		}
	}
	for i := range s.Columns {
		if r.Intn(4) == 0 {
			s.Columns[i].Height, s.Columns[i].DX = extreme(r), extreme(r)
		}
	}
	return s
}

// clone returns a copy of a scene that shares no memory with it.
func clone(s api.RdScene) api.RdScene {
	s.Roads, s.Trees, s.Fronts, s.Columns = slices.Clone(s.Roads), slices.Clone(s.Trees), slices.Clone(s.Fronts), slices.Clone(s.Columns)
	for i := range s.Roads {
		s.Roads[i].Points = slices.Clone(s.Roads[i].Points)
	}
	for i := range s.Fronts {
		s.Fronts[i].Windows = slices.Clone(s.Fronts[i].Windows)
	}
	return s
}

// P3.12: nothing panics, with an error there is nothing else, and the scene is not modified.
func TestAnyArguments(t *testing.T) {
	r := rand.New(rand.NewSource(312))
	for range 20000 {
		s := strange(r)
		before := clone(s)
		part, at, e := Check(s)
		if e == api.OK && (part != 0 || at != 0) {
			t.Fatalf("Check(%v) = %d, %d, OK", s, part, at)
		}
		i, j, x, y := r.Intn(3), r.Intn(3), extreme(r), extreme(r)
		if r.Intn(4) == 0 {
			i, j = extreme(r), extreme(r)
		}
		p := api.RdPatch{X0: x, Y0: y, X1: extreme(r), Y1: extreme(r)}
		for name, got := range results(s, i, j, x, y, p) {
			if e != api.OK && got[1] != any(e) {
				t.Fatalf("%s returns %d for a scene with the error %d", name, got[1], e)
			}
			if v := reflect.ValueOf(got[0]); got[1] != any(api.OK) && !v.IsZero() {
				t.Fatalf("%s(%v) = %v with the error %d", name, s, got[0], got[1])
			}
		}
		if !reflect.DeepEqual(s, before) {
			t.Fatalf("%v was %v", s, before)
		}
	}
}

// results returns the result and the error of each function.
func results(s api.RdScene, i, j, x, y int, p api.RdPatch) map[string][2]any {
	pair := func(result any, e api.Errno) [2]any { return [2]any{result, e} }
	all := map[string][2]any{}
	on, e := On(s, i, x, y)
	all["On"] = pair(on, e)
	meets, e := Meets(s, i, p)
	all["Meets"] = pair(meets, e)
	patches, e := Patches(s, i, x)
	all["Patches"] = pair(patches, e)
	standing, e := Standing(s)
	all["Standing"] = pair(standing, e)
	junctions, e := Junctions(s)
	all["Junctions"] = pair(junctions, e)
	bends, e := Bends(s, i)
	all["Bends"] = pair(bends, e)
	shaded, e := Shaded(s, i, x, y)
	all["Shaded"] = pair(shaded, e)
	shade, e := Shade(s, i, p)
	all["Shade"] = pair(shade, e)
	faces, e := Faces(s, i, j)
	all["Faces"] = pair(faces, e)
	window, e := Window(s, i, j)
	all["Window"] = pair(window, e)
	return all
}

// P3.12: what a caller does with a result changes neither other results nor other parts of it.
func TestResultsAreNewMemory(t *testing.T) {
	s := fullScene()
	want, _ := Junctions(s)
	got, _ := Junctions(s)
	if len(want) < 4 {
		t.Fatalf("%d junctions", len(want))
	}
	for i := range got {
		roads := got[i].Roads
		for j := range roads {
			roads[j] = -1
		}
		for range 20 {
			roads = append(roads[:len(roads):cap(roads)], -1)
		}
		for j := range got {
			if j > i && !reflect.DeepEqual(got[j], want[j]) {
				t.Fatalf("the junction %d was changed with %d", j, i)
			}
		}
		got[i] = api.RdJunction{}
	}
	if again, _ := Junctions(s); !reflect.DeepEqual(again, want) {
		t.Error("Junctions was changed")
	}
	before := clone(s)
	standing, _ := Standing(s)
	bends, _ := Bends(s, 1)
	patches, _ := Patches(example(), 0, 4000)
	for _, list := range [][]int{standing, bends} {
		for i := range list {
			list[i] = -1
		}
	}
	clear(patches)
	standingAgain, _ := Standing(s)
	bendsAgain, _ := Bends(s, 1)
	patchesAgain, _ := Patches(example(), 0, 4000)
	if slices.Contains(standingAgain, -1) || slices.Contains(bendsAgain, -1) || slices.Contains(patchesAgain, api.RdPatch{}) || !reflect.DeepEqual(s, before) {
		t.Error("a result was changed with another one")
	}
	if len(standing) == 0 || len(bends) == 0 || len(patches) == 0 {
		t.Error("nothing was changed")
	}
}
