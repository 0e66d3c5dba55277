package light

import (
	"math"
	"testing"

	"linkboy/api"
)

// lane returns a scene with a lamp of 10000 mcd to all sides, 4 m above (0, 0), that reaches 20 m, and a road with two patches of 2 m: from 0 to 2000 and from 2000 to 4000 across, from 0 to 2000 along.
func lane() api.LtScene {
	s := even(40)
	s.Catalog.Lamps[0].Lumens = 10000
	s.Road.Roads = []api.RdRoad{{Name: "lane", Points: [][2]int{{1000, 1000}, {3000, 1000}}, Width: 100}}
	return s
}

var luxClass = api.LtClass{Kind: api.LtLux, Step: 2000, DY: 1, Glare: api.MaxGlare}

var brightClass = api.LtClass{Kind: api.LtBright, Step: 2000, DY: 1, Glare: api.MaxGlare}

// P4.5
func TestJudge(t *testing.T) {
	first := lane()
	first.Surface = 0
	dark := lane()
	dark.Lamps[0] = -1
	mixed := lane() // a tree that shades (2000, 0) and around
	mixed.Road.Trees = []api.RdTree{{X: 1000, R: 100, Low: 19, High: 20}}
	level := lane()
	level.Uses[0].Level = 1
	for i, c := range []struct {
		s    api.LtScene
		c    api.LtClass
		want api.LtResult
	}{
		// 10000 by 4000 by 10^6 by the third powers of 4000, 4899, 4472 and 6000: 625, 340, 447 and 185, which are rounded outward
		{lane(), luxClass, api.LtResult{Average: api.Encl{Lo: 262, Hi: 537}, Least: api.Encl{Lo: 185, Hi: 448}, Uniform: 344, Patches: 2, Worst: 1}},
		{dark, luxClass, api.LtResult{Patches: 2}},
		{mixed, luxClass, api.LtResult{Average: api.Encl{Lo: 0, Hi: 537}, Least: api.Encl{Lo: 0, Hi: 448}, Patches: 2}},
		// 10000 by 700 by 10^5 by 4000 squared everywhere; both middles are in front of the lamp, which is no glare
		{lane(), brightClass, api.LtResult{Average: api.Encl{Lo: 43700, Hi: 43800}, Least: api.Encl{Lo: 43700, Hi: 43800}, Uniform: 997, Patches: 2}},
		// likewise by 1000
		{first, brightClass, api.LtResult{Average: api.Encl{Lo: 62500, Hi: 62500}, Least: api.Encl{Lo: 62500, Hi: 62500}, Uniform: 1000, Patches: 2}},
		{dark, brightClass, api.LtResult{Glare: api.MaxGlare, Patches: 2}},
		{mixed, brightClass, api.LtResult{Average: api.Encl{Lo: 0, Hi: 43800}, Least: api.Encl{Lo: 0, Hi: 43800}, Glare: api.MaxGlare, Patches: 2}},
		{level, brightClass, api.LtResult{Average: api.Encl{Lo: 0, Hi: 100}, Least: api.Encl{Lo: 0, Hi: 100}, Glare: api.MaxGlare, Patches: 2}},
	} {
		if got, e := Judge(c.s, 0, c.c); got != c.want || e != api.OK {
			t.Errorf("scene %d: Judge = %v, %d, want %v", i, got, e, c.want)
		}
	}
}

// P4.5: the glare is that of the middle with the worst veil.
func TestGlare(t *testing.T) {
	for _, c := range []struct{ x, dx int }{{-10000, 1}, {10000, -7}, {-9000, 1}, {-12001, 1}} {
		s := lane()
		s.Road.Roads[0].Points = [][2]int{{c.x, 1000}, {c.x + 2000, 1000}}
		class := brightClass
		class.DX, class.DY = c.dx, 0
		got, e := Judge(s, 0, class)
		veil := 0
		for x := -30000; x <= 30000; x += 2000 {
			p := api.RdPatch{X0: x, X1: x + 2000, Y0: 0, Y1: 2000}
			if p.X0 > c.x+2050 || p.X1 < c.x-50 {
				continue
			}
			v, _ := Veil(s, api.LtView{X: x + 1000, Y: 1000, DX: c.dx})
			veil = max(veil, v.Hi)
		}
		want := (1000*veil + got.Average.Lo - 1) / got.Average.Lo
		if got.Glare != want || want == 0 || e != api.OK {
			t.Errorf("Judge of a road at %d = %v, %d, want the glare %d", c.x, got, e, want)
		}
	}
}

// P4.5: no glare is above MaxGlare.
func TestGreatestGlare(t *testing.T) {
	s := lane()
	s.Road.Roads[0].Points = [][2]int{{-7000, 1000}, {-7001, 1000}}
	s.Catalog.Tables[1].Values = [][]int{{1, 1}, {1, 1}}
	s.Catalog.Lamps[0].Lumens = 20000
	s.Road.Columns[0].Y, s.Road.Columns[0].Height = 1000, 16 // just above the eye
	class := brightClass
	class.DX, class.DY = 1, 0
	got, e := Judge(s, 0, class)
	if got.Glare != api.MaxGlare || got.Average.Lo == 0 || e != api.OK {
		t.Errorf("Judge = %v, %d", got, e)
	}
	if ok, e := Accept(s, 0, class); !ok || e != api.OK {
		t.Errorf("Accept = %v, %d", ok, e)
	}
	class.Glare--
	if ok, e := Accept(s, 0, class); ok || e != api.OK {
		t.Errorf("Accept = %v, %d", ok, e)
	}
}

// P4.5: patches are cut to the places there are, and those beyond them are left out.
func TestPatchesAtTheEnd(t *testing.T) {
	for _, c := range []struct {
		x, y, step int
		patches    int
		want       api.RdPatch // the first one
	}{
		// From 80000 on 2, from 90000 and 100000 on 4 of each, the latter cut to lines; from 110000 on 2, of which nothing is left.
		{100000, 0, 10000, 10, api.RdPatch{X0: 90000, Y0: -20000, X1: 100000, Y1: -10000}},
		{99000, 99000, 10000, 8, api.RdPatch{X0: 90000, Y0: 80000, X1: 100000, Y1: 90000}},
		{-100000, -100000, 10000, 8, api.RdPatch{X0: -100000, Y0: -100000, X1: -100000, Y1: -100000}},
		{-99000, -99000, 70000, 1, api.RdPatch{X0: -100000, Y0: -100000, X1: -70000, Y1: -70000}},
	} {
		s := lane()
		s.Road.Roads[0].Points = [][2]int{{c.x, c.y}, {c.x, c.y + 1}}
		s.Road.Roads[0].Width = 21000
		s.Road.Columns[0].X, s.Road.Columns[0].Y = c.x, c.y
		class := luxClass
		class.Step = c.step
		got, e := Judge(s, 0, class)
		if e != api.OK {
			t.Errorf("Judge at (%d, %d): %d", c.x, c.y, e)
			continue
		}
		if patches, _ := patchesOf(s.Road, 0, c.step); len(patches) != c.patches || got.Patches != c.patches || patches[0] != c.want {
			t.Errorf("patches at (%d, %d): %v, %d", c.x, c.y, patches, got.Patches)
		}
	}
}

// P4.5: what a class asks for is met exactly, and one more is not.
func TestAccept(t *testing.T) {
	for _, class := range []api.LtClass{luxClass, brightClass} {
		s := lane()
		s.Road.Roads[0].Points = [][2]int{{-9000, 1000}, {-7000, 1000}}
		class.DX, class.DY = 1, 0
		r, _ := Judge(s, 0, class)
		if r.Average.Lo == 0 || r.Least.Lo == 0 || r.Uniform == 0 || (r.Glare == 0) != (class.Kind == api.LtLux) {
			t.Fatalf("Judge = %v", r)
		}
		class.Average, class.Least, class.Uniform, class.Glare = r.Average.Lo, r.Least.Lo, r.Uniform, r.Glare
		if ok, e := Accept(s, 0, class); !ok || e != api.OK {
			t.Errorf("Accept(%v) = %v, %d", class, ok, e)
		}
		average, least, uniform, glare := class, class, class, class
		average.Average++
		least.Least++
		uniform.Uniform++
		glare.Glare--
		for _, more := range []api.LtClass{average, least, uniform, glare} {
			want := api.OK
			if more.Glare < 0 {
				want = api.ErrRange
			}
			if ok, e := Accept(s, 0, more); ok || e != want {
				t.Errorf("Accept(%v) = %v, %d", more, ok, e)
			}
		}
	}
}

// P4.5: the errors in their order.
func TestErrorsOfJudgeAndAccept(t *testing.T) {
	type change func(c *api.LtClass)
	long := bare()
	long.Road.Roads[0].Points = [][2]int{{-100000, 0}, {100000, 0}}
	surfaced := example()
	surfaced.Road.Roads = long.Road.Roads
	fine := func(c *api.LtClass) { c.Step = 100 }
	bright := func(c *api.LtClass) { c.Kind = api.LtBright }
	noWay := func(c *api.LtClass) { c.DX, c.DY = 0, 0 }
	for i, c := range []struct {
		s       api.LtScene
		road    int
		changes []change
		e       api.Errno
	}{
		{wrong(), 1, []change{func(c *api.LtClass) { *c = api.LtClass{} }}, api.ErrTwice},
		{long, 1, []change{func(c *api.LtClass) { *c = api.LtClass{} }}, api.ErrNone}, {long, -1, nil, api.ErrNone}, {long, math.MinInt, nil, api.ErrNone}, {long, math.MaxInt, nil, api.ErrNone}, {api.LtScene{Surface: -1}, 0, nil, api.ErrNone},
		{long, 0, []change{func(c *api.LtClass) { c.Kind, c.Step = 0, 0 }}, api.ErrArg}, {long, 0, []change{func(c *api.LtClass) { c.Kind, c.Average = 3, -1 }}, api.ErrArg}, {long, 0, []change{func(c *api.LtClass) { c.Kind = math.MinInt }}, api.ErrArg},
		{long, 0, []change{noWay, bright, fine}, api.ErrArg},
		{long, 0, []change{bright, fine}, api.ErrNone}, {long, 0, []change{bright}, api.ErrNone},
		{surfaced, 0, []change{bright, fine}, api.ErrLong}, {long, 0, []change{fine}, api.ErrLong}, {long, 0, nil, api.OK}, {surfaced, 0, []change{bright}, api.OK},
	} {
		class := luxClass
		class.Step = 10000
		for _, change := range c.changes {
			change(&class)
		}
		checkClassError(t, i, c.s, c.road, class, c.e)
	}
}

// P4.5
func TestRangesOfClasses(t *testing.T) {
	s := bare()
	for i, set := range []func(c *api.LtClass, n int){
		func(c *api.LtClass, n int) { c.Average = n }, func(c *api.LtClass, n int) { c.Least = n }, func(c *api.LtClass, n int) { c.Uniform = n }, func(c *api.LtClass, n int) { c.Glare = n }, func(c *api.LtClass, n int) { c.Step = n },
	} {
		least := []int{0, 0, 0, 0, 100}[i]
		most := []int{1000000000, 1000000000, 1000, 1000000, 100000}[i]
		for _, n := range []int{least - 1, most + 1, math.MinInt, math.MaxInt} {
			class := luxClass
			class.Kind, class.DX, class.DY = api.LtBright, 0, 0 // which have errors that come later
			set(&class, n)
			checkClassError(t, n, s, 0, class, api.ErrRange)
		}
		for _, n := range []int{least, most} {
			class := luxClass
			set(&class, n)
			want := api.OK
			if i == 4 && n == 100 {
				want = api.ErrLong
			}
			checkClassError(t, n, s, 0, class, want)
		}
	}
	for _, d := range noDirections() {
		class := luxClass
		class.DX, class.DY = d[0], d[1]
		checkClassError(t, d[0], s, 0, class, api.ErrArg)
	}
}

func checkClassError(t *testing.T, number int, s api.LtScene, road int, c api.LtClass, want api.Errno) {
	t.Helper()
	if r, e := Judge(s, road, c); e != want || (r == api.LtResult{}) != (e != api.OK) {
		t.Errorf("%d: Judge(%d, %v) = %v, %d, want %d", number, road, c, r, e, want)
	}
	if ok, e := Accept(s, road, c); e != want || ok && e != api.OK {
		t.Errorf("%d: Accept(%d, %v) = %v, %d, want %d", number, road, c, ok, e, want)
	}
}
