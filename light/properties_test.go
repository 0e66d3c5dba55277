package light

import (
	"math"
	"math/rand"
	"reflect"
	"slices"
	"testing"

	"linkboy/api"
	"linkboy/lamp"
	"linkboy/road"
)

func meets(x, y api.Encl) bool { return x.Lo <= y.Hi && y.Lo <= x.Hi }

// partOf returns a patch in a patch, which is often a point.
func partOf(r *rand.Rand, p api.RdPatch) api.RdPatch {
	q := api.RdPatch{X0: from(r, p.X0, p.X1), Y0: from(r, p.Y0, p.Y1)}
	q.X1, q.Y1 = q.X0, q.Y0
	if r.Intn(2) == 0 {
		q.X1, q.Y1 = from(r, q.X0, p.X1), from(r, q.Y0, p.Y1)
	}
	return q
}

// P4.7
func TestPartsOfPatches(t *testing.T) {
	r := rand.New(rand.NewSource(407))
	lit := 0
	for range 3000 {
		s := randomScene(r, sizeOf(r))
		p := randomPatch(r, s)
		q := partOf(r, p)
		dx, dy := randomDirection(r)
		lux, _ := Lux(s, p)
		part, _ := Lux(s, q)
		bright, _ := Bright(s, p, dx, dy)
		brightPart, _ := Bright(s, q, dx, dy)
		if !meets(lux, part) || !meets(bright, brightPart) {
			t.Fatalf("%v: %v and %v on %v, %v and %v on %v", s, lux, bright, p, part, brightPart, q)
		}
		if lux.Lo > 0 && bright.Lo > 0 {
			lit++
		}
	}
	if lit < 100 {
		t.Errorf("%d lit patches", lit)
	}
}

// brightStreet returns a scene whose lamps have light in all directions, on a road among them.
func brightStreet(r *rand.Rand) api.LtScene {
	s := randomScene(r, 15000)
	for i := range s.Catalog.Tables {
		t := &s.Catalog.Tables[i]
		t.Us[0], t.Us[len(t.Us)-1] = -api.MaxTan, api.MaxTan
		t.Vs[0], t.Vs[len(t.Vs)-1] = -api.MaxTan, api.MaxTan
	}
	for i := range s.Road.Columns {
		s.Road.Columns[i].X, s.Road.Columns[i].Y = place(r, 8000), place(r, 8000)
		s.Road.Columns[i].Height = from(r, 40, 120)
		s.Lamps[i] = from(r, 0, 2)
	}
	s.Road.Roads[0].Points = [][2]int{{place(r, 8000), place(r, 8000)}, {9000, place(r, 8000)}, {place(r, 8000), 9000}}
	s.Road.Roads[0].Width = from(r, 100, 6000)
	return s
}

// asks returns a class that a road has just about, and its light.
func asks(r *rand.Rand, s api.LtScene) (api.LtClass, api.LtResult) {
	c := api.LtClass{Kind: from(r, api.LtLux, api.LtBright), Step: from(r, 1500, 6000)}
	c.DX, c.DY = randomDirection(r)
	got, _ := Judge(s, 0, c)
	c.Average, c.Least = max(0, got.Average.Lo-r.Intn(2)), max(0, got.Least.Lo-r.Intn(2))
	c.Uniform, c.Glare = max(0, got.Uniform-r.Intn(2)), min(got.Glare+r.Intn(2), api.MaxGlare)
	return c, got
}

// P4.8
func TestAcceptedRoadsAreLitEverywhere(t *testing.T) {
	r := rand.New(rand.NewSource(408))
	points := 0
	for range 200 {
		s := brightStreet(r)
		c, _ := asks(r, s)
		if ok, e := Accept(s, 0, c); !ok || e != api.OK {
			t.Fatalf("Accept(%v, %v) = %v, %d", s, c, ok, e)
		}
		for range 100 {
			x, y := place(r, 12000), place(r, 12000)
			if on, _ := road.On(s.Road, 0, x, y); !on || c.Least == 0 {
				continue
			}
			points++
			p := api.RdPatch{X0: x, Y0: y, X1: x, Y1: y}
			light, _ := Lux(s, p)
			if c.Kind == api.LtBright {
				light, _ = Bright(s, p, c.DX, c.DY)
			}
			if light.Hi < c.Least {
				t.Fatalf("%v has %v at (%d, %d), but %v is accepted", s, light, x, y, c)
			}
		}
	}
	if points < 500 {
		t.Errorf("%d points", points)
	}
}

// all is all that a scene has, for a patch, a view and the first window.
type all struct {
	lux, bright, veil, power api.Encl
	window, sky              int
}

func allOf(s api.LtScene, p api.RdPatch, v api.LtView) (a all) {
	a.lux, _ = Lux(s, p)
	a.bright, _ = Bright(s, p, v.DX, v.DY)
	a.veil, _ = Veil(s, v)
	a.power, _ = Power(s)
	a.window, _ = Window(s, 0, 0)
	a.sky, _ = Sky(s)
	return a
}

func sumOf(x, y api.Encl) api.Encl { return api.Encl{Lo: x.Lo + y.Lo, Hi: x.Hi + y.Hi} }

// P4.9
func TestSums(t *testing.T) {
	r := rand.New(rand.NewSource(409))
	for range 2000 {
		s := randomScene(r, sizeOf(r))
		p, v := randomPatch(r, s), randomView(r, s)
		var sum all
		for column := range s.Lamps {
			alone := s
			alone.Lamps = []int{}
			for range s.Lamps {
				alone.Lamps = append(alone.Lamps, -1)
			}
			alone.Lamps[column] = s.Lamps[column]
			one := allOf(alone, p, v)
			sum = all{sumOf(sum.lux, one.lux), sumOf(sum.bright, one.bright), sumOf(sum.veil, one.veil), sumOf(sum.power, one.power), sum.window + one.window, sum.sky + one.sky}
		}
		if got := allOf(s, p, v); got != sum {
			t.Fatalf("%v, %v, %v: %v, but the sum of all columns is %v", s, p, v, got, sum)
		}
	}
}

// movement moves a place, or turns it, and a direction.
type movement struct {
	quarters, x, y int
}

func (m movement) direction(x, y int) (int, int) {
	for range m.quarters {
		x, y = -y, x
	}
	return x, y
}

func (m movement) place(x, y int) (int, int) {
	x, y = m.direction(x, y)
	return x + m.x, y + m.y
}

func (m movement) patch(p api.RdPatch) api.RdPatch {
	ax, ay := m.place(p.X0, p.Y0)
	bx, by := m.place(p.X1, p.Y1)
	return api.RdPatch{X0: min(ax, bx), Y0: min(ay, by), X1: max(ax, bx), Y1: max(ay, by)}
}

func (m movement) view(v api.LtView) api.LtView {
	v.X, v.Y = m.place(v.X, v.Y)
	v.DX, v.DY = m.direction(v.DX, v.DY)
	return v
}

func (m movement) scene(s api.LtScene) api.LtScene {
	s.Road.Columns, s.Road.Trees = slices.Clone(s.Road.Columns), slices.Clone(s.Road.Trees)
	s.Road.Roads, s.Road.Fronts = nil, nil
	for i := range s.Road.Columns {
		c := &s.Road.Columns[i]
		c.X, c.Y = m.place(c.X, c.Y)
		c.DX, c.DY = m.direction(c.DX, c.DY)
	}
	for i := range s.Road.Trees {
		tree := &s.Road.Trees[i]
		tree.X, tree.Y = m.place(tree.X, tree.Y)
	}
	return s
}

// P4.10
func TestMovedAndTurnedScenes(t *testing.T) {
	r := rand.New(rand.NewSource(410))
	moved := 0
	for range 4000 {
		s := randomScene(r, sizeOf(r))
		m := movement{r.Intn(4), place(r, 50000), place(r, 50000)}
		if r.Intn(2) == 0 {
			m.x, m.y = 0, 0
		}
		p, v := randomPatch(r, s), randomView(r, s)
		there := m.scene(s)
		lux, e := Lux(there, m.patch(p))
		if e != api.OK { // not in the range of places
			continue
		}
		view := m.view(v)
		bright, _ := Bright(there, m.patch(p), view.DX, view.DY)
		was := allOf(s, p, v)
		if lux != was.lux || bright != was.bright {
			t.Fatalf("%v, %v, %v: %v and %v, but moved by %v %v and %v", s, p, v, was.lux, was.bright, m, lux, bright)
		}
		if veil, e := Veil(there, view); e == api.OK && veil != was.veil {
			t.Fatalf("%v, %v: %v, but moved by %v %v", s, v, was.veil, m, veil)
		}
		moved++
	}
	if moved < 1000 {
		t.Errorf("%d scenes", moved)
	}
}

// isNoGreater reports whether no end of an enclosure is greater than that of another one.
func isNoGreater(x, y api.Encl) bool { return x.Lo <= y.Lo && x.Hi <= y.Hi }

// P4.11
func TestLowerLevelsAndTrees(t *testing.T) {
	r := rand.New(rand.NewSource(411))
	shaded := 0
	for range 3000 {
		s := randomScene(r, sizeOf(r))
		p, v := randomPatch(r, s), randomView(r, s)
		was := allOf(s, p, v)
		dimmed := s
		dimmed.Uses = slices.Clone(s.Uses)
		column := r.Intn(len(s.Uses))
		dimmed.Uses[column].Level = r.Intn(s.Uses[column].Level + 1)
		if is := allOf(dimmed, p, v); !isNoGreater(is.lux, was.lux) || !isNoGreater(is.bright, was.bright) || !isNoGreater(is.veil, was.veil) {
			t.Fatalf("%v, %v, %v: %v, but with %v %v", s, p, v, was, dimmed.Uses, is)
		}
		if len(s.Road.Trees) == 0 {
			continue
		}
		felled := s
		felled.Road.Trees = slices.Delete(slices.Clone(s.Road.Trees), 0, 1)
		is := allOf(felled, p, v)
		if !isNoGreater(was.lux, is.lux) || !isNoGreater(was.bright, is.bright) || was.veil != is.veil {
			t.Fatalf("%v, %v, %v: %v, but without a tree %v", s, p, v, was, is)
		}
		if was.lux != is.lux {
			shaded++
		}
	}
	if shaded < 100 {
		t.Errorf("%d trees that shade", shaded)
	}
}

// P4.12
func TestLesserClassesAndOlderLamps(t *testing.T) {
	r := rand.New(rand.NewSource(412))
	for range 200 {
		s := brightStreet(r)
		c, was := asks(r, s)
		less := c
		switch r.Intn(4) {
		case 0:
			less.Average = r.Intn(c.Average + 1)
		case 1:
			less.Least = r.Intn(c.Least + 1)
		case 2:
			less.Uniform = r.Intn(c.Uniform + 1)
		default:
			less.Glare = from(r, c.Glare, api.MaxGlare)
		}
		if ok, e := Accept(s, 0, less); !ok || e != api.OK {
			t.Fatalf("Accept(%v, %v) = %v, %d", s, less, ok, e)
		}
		column := r.Intn(len(s.Uses))
		s.Uses[column].Hours += r.Intn(20000)
		s.Uses[column].Months += r.Intn(20)
		is, e := Judge(s, 0, c)
		if !isNoGreater(is.Average, was.Average) || !isNoGreater(is.Least, was.Least) || e != api.OK {
			t.Fatalf("Judge(%v, %v) = %v, %d, but with a newer lamp %v", s, c, is, e, was)
		}
	}
}

// P4.13: turned away, a column adds nothing.
func TestWindowsThatColumnsDoNotFace(t *testing.T) {
	r := rand.New(rand.NewSource(4130))
	for range 1000 {
		s := randomScene(r, sizeOf(r))
		got, _ := Window(s, 0, 0)
		s.Road.Fronts[0].A, s.Road.Fronts[0].B = s.Road.Fronts[0].B, s.Road.Fronts[0].A
		w := &s.Road.Fronts[0].Windows[0]
		w.From, w.To = 1000-w.To, 1000-w.From
		turned, _ := Window(s, 0, 0)
		lamps := slices.Clone(s.Lamps)
		for column := range s.Lamps {
			s.Lamps[column] = lamps[column]
			if faces, _ := road.Faces(s.Road, column, 0); !faces {
				s.Lamps[column] = -1
			}
		}
		if alone, _ := Window(s, 0, 0); alone != turned {
			t.Fatalf("%v: %d and turned %d, but %d from the columns that face it", s, got, turned, alone)
		}
	}
}

// clone returns a scene that shares no memory with another one.
func clone(s api.LtScene) api.LtScene {
	text, _ := lamp.Print(s.Catalog)
	s.Catalog, _, _ = lamp.Parse(text)
	s.Lamps, s.Uses = slices.Clone(s.Lamps), slices.Clone(s.Uses)
	s.Road.Trees, s.Road.Columns = slices.Clone(s.Road.Trees), slices.Clone(s.Road.Columns)
	s.Road.Roads, s.Road.Fronts = slices.Clone(s.Road.Roads), slices.Clone(s.Road.Fronts)
	for i := range s.Road.Roads {
		s.Road.Roads[i].Points = slices.Clone(s.Road.Roads[i].Points)
	}
	for i := range s.Road.Fronts {
		s.Road.Fronts[i].Windows = slices.Clone(s.Road.Fronts[i].Windows)
	}
	return s
}

// P4.14
func TestScenesAreNotModified(t *testing.T) {
	r := rand.New(rand.NewSource(414))
	for range 300 {
		s := brightStreet(r)
		if len(s.Road.Trees) == 0 {
			s.Road.Trees = nil
		}
		was := clone(s)
		p, v := randomPatch(r, s), randomView(r, s)
		Check(s)
		Frame(s, 0, p)
		allOf(s, p, v)
		c, _ := asks(r, s)
		Accept(s, 0, c)
		if !reflect.DeepEqual(s, was) {
			t.Fatalf("%v became %v", was, s)
		}
	}
}

// P4.14: any numbers are accepted.
func TestAnyArguments(t *testing.T) {
	r := rand.New(rand.NewSource(4140))
	any := func() int {
		n := []int{-1, 0, 1, 2, 100, 1000, 100000, 100001, math.MaxInt, math.MinInt, math.MaxInt - 1}
		return n[r.Intn(len(n))]
	}
	for range 20000 {
		s := randomScene(r, 15000)
		p, v := api.RdPatch{X0: any(), Y0: any(), X1: any(), Y1: any()}, api.LtView{X: any(), Y: any(), DX: any(), DY: any()}
		switch r.Intn(8) {
		case 0:
			s.Surface = any()
		case 1:
			s.Lamps[0] = any()
		case 2:
			s.Uses[0] = api.LmUse{Hours: any(), Months: any(), Level: any()}
		case 3:
			s.Road.Columns[0] = api.RdColumn{Name: "c", X: any(), Y: any(), Height: any(), DX: any(), DY: any()}
		case 4:
			s.Catalog.Lamps[0].Table, s.Catalog.Lamps[0].Lumens = any(), any()
		case 5:
			s.Catalog.Tables[0] = api.LmTable{Name: "a", Us: []int{any(), any()}, Vs: []int{any(), any()}, Values: [][]int{{any(), any()}, {any()}}, Side: any()}
		case 6:
			s.Road.Fronts[0] = api.RdFront{A: [2]int{any(), any()}, B: [2]int{any(), any()}, Windows: []api.RdWindow{{From: any(), To: any(), Low: any(), High: any()}}}
		}
		Check(s)
		Frame(s, any(), p)
		allOf(s, p, v)
		Window(s, any(), any())
		c := api.LtClass{Kind: any(), Average: any(), Least: any(), Uniform: any(), Glare: any(), Step: any(), DX: any(), DY: any()}
		Judge(s, any(), c)
		Accept(s, 0, c)
	}
}
