package road

import (
	"math"
	"math/rand"
	"testing"

	"linkboy/api"
)

// P3.5
func TestShaded(t *testing.T) {
	for _, c := range []struct{ x, y, want int }{
		{4000, 2500, 0}, {4000, 0, 0}, {4000, 4000, 0}, {4000, 5000, -1}, {8000, 4000, -1},
		{4000, -2000, 0}, {4000, -2001, -1}, // the way leaves the crown at its upper end: a third of it is 2000
		{6598, 2500, 0}, {6599, 2500, -1}, {4000, 4001, -1},
	} {
		if got, e := Shaded(example(), 0, c.x, c.y); got != c.want || e != api.OK {
			t.Errorf("Shaded(%d, %d) = %d, %d", c.x, c.y, got, e)
		}
	}
}

// P3.5
func TestTheFirstTreeThatShades(t *testing.T) {
	s := example()
	s.Trees = []api.RdTree{{X: 90000, Y: 0, R: 1, Low: 0, High: 1}, {X: 4000, Y: 3000, R: 1000, Low: 61, High: 1000}, s.Trees[0], s.Trees[0]}
	if got, e := Shaded(s, 0, 4000, 2500); got != 2 || e != api.OK {
		t.Errorf("Shaded = %d, %d", got, e)
	}
}

// P3.5: heights of crowns around that of a lamp over (0, 0) at 100 dm, with crowns that are at (1000, 0).
func TestHeightsOfCrowns(t *testing.T) {
	for _, c := range []struct {
		r, low, high int
		x            int
		want         int
	}{
		{1000, 100, 101, 5000, 0}, {1000, 100, 101, -5000, 0}, {1000, 100, 101, 0, 0}, // the lamp is on the crown
		{999, 100, 101, 5000, -1}, {999, 101, 102, 1000, -1}, {1000, 101, 102, 0, -1}, {1000, 101, 102, 5000, -1}, // beside it, and below it
		{999, 50, 200, 100000, 0}, {999, 50, 200, 2, 0}, {999, 50, 200, 1, -1}, {999, 50, 200, 0, -1}, {999, 50, 200, -1, -1}, // beside a crown that is higher: it begins to shade at 2
		{500, 0, 1, 500, 0}, {500, 0, 1, 499, -1}, {500, 0, 1, 1515, 0}, {500, 0, 1, 1516, -1}, // on the ground: 1500 by 0.99 is 1515.15
		{500, 50, 75, 1000, 0}, {500, 50, 75, 999, -1}, {500, 50, 75, 6000, 0}, {500, 50, 75, 6001, -1},
	} {
		s := api.RdScene{Trees: []api.RdTree{{X: 1000, R: c.r, Low: c.low, High: c.high}}, Columns: []api.RdColumn{{Name: "c", Height: 100, DX: 1}}}
		if got, e := Shaded(s, 0, c.x, 0); got != c.want || e != api.OK {
			t.Errorf("Shaded by %v, at %d: %d, %d", s.Trees[0], c.x, got, e)
		}
		want := api.RdLit
		if c.want == 0 {
			want = api.RdDark
		}
		if got, e := Shade(s, 0, api.RdPatch{X0: c.x, X1: c.x}); got != want || e != api.OK {
			t.Errorf("Shade by %v, at %d: %d, %d", s.Trees[0], c.x, got, e)
		}
	}
}

// P3.5
func TestShade(t *testing.T) {
	for _, c := range []struct {
		p    api.RdPatch
		want int
	}{
		{api.RdPatch{X0: 3900, Y0: 2000, X1: 4100, Y1: 2500}, api.RdDark},
		{api.RdPatch{X0: 3900, Y0: 3900, X1: 4100, Y1: 4100}, api.RdPart},
		{api.RdPatch{X0: 8000, Y0: 0, X1: 9000, Y1: 1000}, api.RdLit},
		{api.RdPatch{X0: 4000, Y0: -2000, X1: 4000, Y1: 4000}, api.RdDark},
		{api.RdPatch{X0: 4000, Y0: -2001, X1: 4000, Y1: 4000}, api.RdPart},
		{api.RdPatch{X0: 3000, Y0: -9000, X1: 5000, Y1: -2000}, api.RdPart}, // a point of a side
		{api.RdPatch{X0: 3000, Y0: -9000, X1: 5000, Y1: -2001}, api.RdLit},
		{api.RdPatch{X0: -100000, Y0: -100000, X1: 100000, Y1: 100000}, api.RdPart}, // around the shadow
		{api.RdPatch{X0: -9000, Y0: 2500, X1: 9000, Y1: 2500}, api.RdPart},          // a line across it
		{api.RdPatch{X0: 6599, Y0: 2500, X1: 9000, Y1: 2500}, api.RdLit},
		{api.RdPatch{X0: 6598, Y0: 2500, X1: 9000, Y1: 2500}, api.RdPart},
	} {
		if got, e := Shade(example(), 0, c.p); got != c.want || e != api.OK {
			t.Errorf("Shade(%v) = %d, %d", c.p, got, e)
		}
	}
}

// P3.5: two trees that shade all points together, but none of them alone, make no patch dark.
func TestTwoShadows(t *testing.T) {
	s := api.RdScene{Columns: []api.RdColumn{{Name: "c", Height: 100, DX: 1}}}
	s.Trees = []api.RdTree{{X: -500, R: 501, Low: 0, High: 1}, {X: 500, R: 501, Low: 0, High: 1}}
	p := api.RdPatch{X0: -900, X1: 900}
	for x := p.X0; x <= p.X1; x++ {
		if tree, e := Shaded(s, 0, x, 0); tree < 0 || e != api.OK {
			t.Fatalf("Shaded(%d) = %d, %d", x, tree, e)
		}
	}
	if got, e := Shade(s, 0, p); got != api.RdPart || e != api.OK {
		t.Errorf("Shade = %d, %d", got, e)
	}
	s.Trees = append(s.Trees, api.RdTree{R: 900, Low: 0, High: 1})
	if got, e := Shade(s, 0, p); got != api.RdDark || e != api.OK {
		t.Errorf("Shade with a tree around them = %d, %d", got, e)
	}
}

// P3.5
func TestShadeIsAsTheLeastDistanceSays(t *testing.T) {
	r := rand.New(rand.NewSource(35))
	var count [3]int
	edges, middles := 0, 0
	for range 6000 {
		size := []int{10, 200, 2000, 100000}[r.Intn(4)]
		s := randomScene(r, size)
		s.Roads, s.Fronts = nil, nil
		if size == 100000 {
			for i := range s.Columns {
				s.Columns[i].Height = 200 - r.Intn(3)
			}
		}
		column := r.Intn(len(s.Columns))
		p := randomPatch(r, size)
		want, first := api.RdLit, -1
		for i, tree := range s.Trees {
			crown := square(tree.R, 1)
			light := beams(s.Columns[column], tree, p)
			if light == nil {
				continue
			}
			least := light.leastSquare()
			if least.Cmp(crown) == 0 {
				edges++
			}
			if least.Cmp(crown) <= 0 {
				want = max(want, api.RdPart)
			}
			if light.greatestSquare().Cmp(crown) <= 0 {
				want = api.RdDark
				if first < 0 {
					first = i
				}
			}
		}
		count[want]++
		if got, e := Shade(s, column, p); got != want || e != api.OK {
			t.Fatalf("Shade(%v, %v, %v) = %d, %d, want %d", s.Trees, s.Columns[column], p, got, e, want)
		}
		if p.X0 != p.X1 || p.Y0 != p.Y1 {
			continue
		}
		if want == api.RdDark {
			middles++
		}
		if got, e := Shaded(s, column, p.X0, p.Y0); got != first || e != api.OK {
			t.Fatalf("Shaded(%v, %v, %v) = %d, %d, want %d", s.Trees, s.Columns[column], p, got, e, first)
		}
	}
	if min(count[0], count[1], count[2]) < 300 || edges < 20 || middles < 100 {
		t.Errorf("%v results, %d on an edge, %d points in a shadow", count, edges, middles)
	}
}

// P3.5: the errors in their order.
func TestErrorsOfShadedAndShade(t *testing.T) {
	const beyond = api.MaxRdPlace + 1
	s := example()
	for _, c := range []struct {
		s            api.RdScene
		column, x, y int
		tree         int
		e            api.Errno
	}{
		{wrong(), 1, beyond, 0, 0, api.ErrForm}, {s, 1, beyond, 0, 0, api.ErrNone}, {s, -1, beyond, 0, 0, api.ErrNone}, {api.RdScene{}, 0, 0, 0, 0, api.ErrNone}, {s, math.MinInt, 0, 0, 0, api.ErrNone}, {s, math.MaxInt, 0, 0, 0, api.ErrNone},
		{s, 0, beyond, 0, 0, api.ErrRange}, {s, 0, 0, beyond, 0, api.ErrRange}, {s, 0, -beyond, 0, 0, api.ErrRange}, {s, 0, 0, -beyond, 0, api.ErrRange}, {s, 0, math.MaxInt, math.MinInt, 0, api.ErrRange},
		{s, 0, beyond - 1, 1 - beyond, -1, api.OK}, {s, 0, 1 - beyond, beyond - 1, -1, api.OK},
	} {
		if tree, e := Shaded(c.s, c.column, c.x, c.y); tree != c.tree || e != c.e {
			t.Errorf("Shaded(%d, %d, %d) = %d, %d, want %d", c.column, c.x, c.y, tree, e, c.e)
		}
		p := api.RdPatch{X0: c.x, Y0: c.y, X1: c.x, Y1: c.y}
		if shade, e := Shade(c.s, c.column, p); shade != 0 || e != c.e {
			t.Errorf("Shade(%d, %v) = %d, %d, want %d", c.column, p, shade, e, c.e)
		}
	}
	s.Trees[0] = api.RdTree{X: 4000, Y: 4000, R: 20000, Low: 0, High: 1000}
	for _, p := range noPatches() {
		if shade, e := Shade(s, 0, p); shade != 0 || e != api.ErrRange {
			t.Errorf("Shade(%v) = %d, %d", p, shade, e)
		}
	}
}
