package light

import (
	"math/rand"
	"strconv"
	"testing"

	"linkboy/api"
	"linkboy/road"
)

// P4.2, P4.3
func TestLightIsAsTheDocumentComputes(t *testing.T) {
	r := rand.New(rand.NewSource(42))
	var shades [3]int
	lit := 0
	for range 8000 {
		s := randomScene(r, sizeOf(r))
		p := randomPatch(r, s)
		column := r.Intn(len(s.Road.Columns))
		c := s.Road.Columns[column]
		if got, e := Frame(s, column, p); got != wantFrame(cornersFrom(c.X, c.Y, p), c.DX, c.DY) || e != api.OK {
			t.Fatalf("Frame(%v) from %v = %v, %d", p, c, got, e)
		}
		lux, e := Lux(s, p)
		if lux != wantLux(s, p) || e != api.OK {
			t.Fatalf("Lux(%v, %v) = %v, %d, want %v", s, p, lux, e, wantLux(s, p))
		}
		dx, dy := randomDirection(r)
		bright, e := Bright(s, p, dx, dy)
		if bright != wantBright(s, p, dx, dy) || e != api.OK {
			t.Fatalf("Bright(%v, %v, %d, %d) = %v, %d, want %v", s, p, dx, dy, bright, e, wantBright(s, p, dx, dy))
		}
		shade, _ := road.Shade(s.Road, column, p)
		shades[shade]++
		if lux.Lo > 0 && bright.Lo > 0 {
			lit++
		}
	}
	if min(shades[0], shades[1], shades[2]) < 300 || lit < 200 {
		t.Errorf("%v shades, %d of the patches are lit", shades, lit)
	}
}

// P4.4
func TestVeilIsAsTheDocumentComputes(t *testing.T) {
	r := rand.New(rand.NewSource(44))
	counted := 0
	for range 6000 {
		s := randomScene(r, sizeOf(r))
		v := randomView(r, s)
		got, e := Veil(s, v)
		if got != wantVeil(s, v) || e != api.OK {
			t.Fatalf("Veil(%v, %v) = %v, %d, want %v", s, v, got, e, wantVeil(s, v))
		}
		if got.Lo > 0 {
			counted++
		}
	}
	if counted < 200 {
		t.Errorf("%d veils", counted)
	}
}

// P4.5
func TestJudgeIsAsTheDocumentComputes(t *testing.T) {
	r := rand.New(rand.NewSource(45))
	lit := 0
	for range 300 {
		size := []int{1000, 15000, api.MaxRdPlace}[r.Intn(3)]
		s := randomScene(r, size)
		s.Road.Trees = s.Road.Trees[:min(len(s.Road.Trees), 1)]
		for i := range s.Catalog.Tables { // light everywhere
			s.Catalog.Tables[i].Us[0], s.Catalog.Tables[i].Vs[0] = -api.MaxTan, -api.MaxTan
			s.Catalog.Tables[i].Us[1], s.Catalog.Tables[i].Vs[1] = api.MaxTan, api.MaxTan
			s.Catalog.Tables[i].Us, s.Catalog.Tables[i].Vs = s.Catalog.Tables[i].Us[:2], s.Catalog.Tables[i].Vs[:2]
			s.Catalog.Tables[i].Values = [][]int{s.Catalog.Tables[i].Values[0][:2], s.Catalog.Tables[i].Values[1][:2]}
		}
		c := api.LtClass{Kind: from(r, api.LtLux, api.LtBright), Step: min(from(r, size/8, size), api.MaxRdPlace)}
		c.DX, c.DY = randomDirection(r)
		got, e := Judge(s, 0, c)
		if e != api.OK || got != wantJudge(s, 0, c) {
			t.Fatalf("Judge(%v, %v) = %v, %d, want %v", s, c, got, e, wantJudge(s, 0, c))
		}
		if got.Uniform > 0 && (c.Kind == api.LtLux || got.Glare > 0 && got.Glare < api.MaxGlare) {
			lit++
		}
	}
	if lit < 30 {
		t.Errorf("%d lit roads", lit)
	}
}

// P4.6
func TestWindowSkyAndPowerAreAsTheDocumentComputes(t *testing.T) {
	r := rand.New(rand.NewSource(46))
	var below, beside, above int
	for range 4000 {
		s := randomScene(r, sizeOf(r))
		front := r.Intn(len(s.Road.Fronts))
		window := r.Intn(len(s.Road.Fronts[front].Windows))
		got, e := Window(s, front, window)
		if got != wantWindow(s, front, window) || e != api.OK {
			t.Fatalf("Window(%v, %d, %d) = %d, %d, want %d", s, front, window, got, e, wantWindow(s, front, window))
		}
		if got, e := Sky(s); got != wantSky(s) || e != api.OK {
			t.Fatalf("Sky(%v) = %d, %d, want %d", s, got, e, wantSky(s))
		}
		if got, e := Power(s); got != wantPower(s) || e != api.OK {
			t.Fatalf("Power(%v) = %v, %d, want %v", s, got, e, wantPower(s))
		}
		w, height := s.Road.Fronts[front].Windows[window], s.Road.Columns[0].Height
		switch {
		case got == 0:
		case w.High < height:
			below++
		case w.Low < height:
			beside++
		default:
			above++
		}
	}
	if min(below, beside, above) < 100 {
		t.Errorf("%d windows below a lamp, %d beside it, %d above it", below, beside, above)
	}
}

// P4.2 to P4.6: the greatest numbers there are.
func TestGreatestNumbers(t *testing.T) {
	s := brightestScene()
	if _, _, e := Check(s); e != api.OK {
		t.Fatalf("Check = %d", e)
	}
	for _, p := range []api.RdPatch{{}, {X0: -100000, Y0: -100000, X1: 100000, Y1: 100000}, {X0: 100000, Y0: 100000, X1: 100000, Y1: 100000}, {X0: -100000, Y0: 0, X1: 0, Y1: 100000}} {
		if got, e := Lux(s, p); got != wantLux(s, p) || e != api.OK {
			t.Errorf("Lux(%v) = %v, %d, want %v", p, got, e, wantLux(s, p))
		}
		if got, e := Bright(s, p, 999, -1000); got != wantBright(s, p, 999, -1000) || e != api.OK {
			t.Errorf("Bright(%v) = %v, %d, want %v", p, got, e, wantBright(s, p, 999, -1000))
		}
	}
	for _, v := range []api.LtView{{X: -100, DX: 1000, DY: 0}, {X: -140, DX: 1000, DY: 1}, {X: -3900, DX: 1}, {X: -100000, Y: -100000, DX: 1000, DY: 1000}} {
		if got, e := Veil(s, v); got != wantVeil(s, v) || e != api.OK || got.Hi == 0 {
			t.Errorf("Veil(%v) = %v, %d, want %v", v, got, e, wantVeil(s, v))
		}
	}
	for window := range s.Road.Fronts[0].Windows {
		if got, e := Window(s, 0, window); got != wantWindow(s, 0, window) || e != api.OK || got == 0 {
			t.Errorf("Window(%d) = %d, %d, want %d", window, got, e, wantWindow(s, 0, window))
		}
	}
	for _, kind := range []int{api.LtLux, api.LtBright} {
		c := api.LtClass{Kind: kind, Step: 2000, DX: 1000, DY: 0}
		if got, e := Judge(s, 0, c); got != wantJudge(s, 0, c) || e != api.OK {
			t.Errorf("Judge(%v) = %v, %d, want %v", c, got, e, wantJudge(s, 0, c))
		}
	}
	if got, e := Sky(s); got != 24*api.MaxBeam || e != api.OK {
		t.Errorf("Sky = %d, %d", got, e)
	}
}

// brightestScene returns a scene with as many columns as there may be, all at one place, with lamps that are as bright as lamps may be, near the ground and near an eye.
func brightestScene() api.LtScene {
	s := example()
	for i := range 2 {
		s.Catalog.Tables[i].Us, s.Catalog.Tables[i].Vs = []int{-5000, 5000}, []int{-5000, 5000}
	}
	s.Catalog.Tables[0].Values = [][]int{{100000, 100000}, {100000, 100000}}
	s.Catalog.Tables[0].Side, s.Catalog.Tables[0].Sky = 100000, 100000
	s.Catalog.Tables[1].Values = [][]int{{10000, 10000}, {10000, 10000}}
	s.Catalog.Tables[1].Side = 10000
	s.Catalog.Lamps[0].Lumens = api.MaxLumens
	s.Road.Columns, s.Lamps, s.Uses = nil, nil, nil
	for i := range api.MaxRdColumns {
		s.Road.Columns = append(s.Road.Columns, api.RdColumn{Name: "c" + strconv.Itoa(i), Height: []int{1, 16}[i%2], DX: 1000, DY: 999})
		s.Lamps, s.Uses = append(s.Lamps, 0), append(s.Uses, api.LmUse{Level: 1000})
	}
	s.Road.Fronts = []api.RdFront{{A: [2]int{1, 1}, B: [2]int{-1, 1}, Windows: []api.RdWindow{{To: 1000, Low: 0, High: 1000}, {To: 1000, Low: 16, High: 17}, {To: 1000, Low: 0, High: 1}}}}
	return s
}
