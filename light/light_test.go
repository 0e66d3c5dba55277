package light

import (
	"math"
	"testing"

	"linkboy/api"
	"linkboy/lamp"
)

// catalogText is the catalogue of chapter 2, and the surface of chapter 4.
const catalogText = `table wide
us -1000 0 2000
vs -1000 1000
row 100 300
row 200 600
row 0 100
side 50
sky 5
table asphalt
us -5000 5000
vs -5000 5000
row 700 700
row 700 700
side 0
sky 0
lamp head wide led lumens 8000 power 60000 standing 500 tolerance 50 ageing 2..4 dirt 3..5 life 100000 dim 200 restrike 0
`

// example returns the scene L of the document.
func example() api.LtScene {
	c, _, _ := lamp.Parse(catalogText)
	return api.LtScene{
		Catalog: c,
		Surface: 1,
		Road: api.RdScene{
			Roads:   []api.RdRoad{{Name: "high", Kind: api.RdCarriage, Points: [][2]int{{0, 0}, {10000, 0}, {10000, 10000}}, Width: 4000}},
			Columns: []api.RdColumn{{Name: "c1", Height: 80, DY: 1}},
		},
		Lamps: []int{0},
		Uses:  []api.LmUse{{Level: 1000}},
	}
}

// wrong returns a scene that Check refuses with ErrTwice.
func wrong() api.LtScene {
	s := example()
	s.Catalog.Tables[1].Name = "wide"
	return s
}

// bare returns the scene L without a surface.
func bare() api.LtScene {
	s := example()
	s.Surface = -1
	return s
}

// noPatches returns rectangles that are no patches.
func noPatches() []api.RdPatch {
	const most = api.MaxRdPlace
	return []api.RdPatch{
		{X0: 1}, {Y0: 1}, {X0: most, Y0: most, X1: -most, Y1: -most},
		{X0: -most - 1}, {Y0: -most - 1}, {X1: most + 1}, {Y1: most + 1},
		{X0: math.MinInt, Y0: math.MinInt, X1: math.MaxInt, Y1: math.MaxInt}, {X0: math.MaxInt, Y0: math.MaxInt, X1: math.MinInt, Y1: math.MinInt},
	}
}

// P4.2
func TestFrame(t *testing.T) {
	patch := api.RdPatch{X0: -4000, Y0: 0, X1: 4000, Y1: 8000}
	for _, c := range []struct {
		x, y, dx, dy int
		p            api.RdPatch
		want         api.LmRect
	}{
		{0, 0, 0, 1, patch, api.LmRect{X0: -4000, X1: 4000, Y0: 0, Y1: 8000}},
		{0, 0, 0, 1000, patch, api.LmRect{X0: -4000, X1: 4000, Y0: 0, Y1: 8000}},
		{0, 0, 0, -1, patch, api.LmRect{X0: -4000, X1: 4000, Y0: -8000, Y1: 0}},
		{0, 0, 1, 0, patch, api.LmRect{X0: -8000, X1: 0, Y0: -4000, Y1: 4000}},
		{0, 0, -7, 0, patch, api.LmRect{X0: 0, X1: 8000, Y0: -4000, Y1: 4000}},
		{1000, 2000, 0, 1, patch, api.LmRect{X0: -5000, X1: 3000, Y0: -2000, Y1: 6000}},
		{0, 0, 3, 4, api.RdPatch{X0: 5, Y0: 10, X1: 5, Y1: 10}, api.LmRect{X0: -2, X1: -2, Y0: 11, Y1: 11}},
		{0, 0, 3, 4, api.RdPatch{X0: 1, Y0: 1, X1: 1, Y1: 1}, api.LmRect{X0: 0, X1: 1, Y0: 1, Y1: 2}}, // 1/5 across, 7/5 along
		{0, 0, 3, 4, api.RdPatch{X0: -1, Y0: -1, X1: -1, Y1: -1}, api.LmRect{X0: -1, X1: 0, Y0: -2, Y1: -1}},
		// 100000 by the root of 2 is 70710.678; its length is taken as 1.414 and 1.415
		{0, 0, 1, 1, api.RdPatch{X0: 0, Y0: 100000, X1: 0, Y1: 100000}, api.LmRect{X0: -70722, X1: -70671, Y0: 70671, Y1: 70722}},
		{0, 0, 1, -1, api.RdPatch{X0: 0, Y0: 100000, X1: 0, Y1: 100000}, api.LmRect{X0: -70722, X1: -70671, Y0: -70722, Y1: -70671}},
		// beyond MaxOffset
		{100000, 100000, 1, 1, api.RdPatch{X0: -100000, Y0: -100000, X1: -100000, Y1: -100000}, api.LmRect{X0: 0, X1: 0, Y0: -200000, Y1: -200000}},
		{-100000, -100000, 1, 1, api.RdPatch{X0: -100000, Y0: -100000, X1: 100000, Y1: 100000}, api.LmRect{X0: -141443, X1: 141443, Y0: 0, Y1: 200000}},
		{-100000, -100000, 0, 1, api.RdPatch{X0: -100000, Y0: -100000, X1: 100000, Y1: 100000}, api.LmRect{X0: 0, X1: 200000, Y0: 0, Y1: 200000}},
	} {
		s := example()
		s.Road.Columns[0] = api.RdColumn{Name: "c1", X: c.x, Y: c.y, Height: 80, DX: c.dx, DY: c.dy}
		if got, e := Frame(s, 0, c.p); got != c.want || e != api.OK {
			t.Errorf("Frame(%v) from %v = %v, %d, want %v", c.p, s.Road.Columns[0], got, e, c.want)
		}
	}
}

// P4.2: the frame of a column without a lamp, and the errors in their order.
func TestErrorsOfFrameAndLux(t *testing.T) {
	s := example()
	s.Lamps[0] = -1
	if got, e := Frame(s, 0, api.RdPatch{X1: 1}); got != (api.LmRect{X1: 1}) || e != api.OK {
		t.Errorf("Frame without a lamp = %v, %d", got, e)
	}
	for _, p := range append(noPatches(), api.RdPatch{}) {
		patchError := api.OK
		if (p != api.RdPatch{}) {
			patchError = api.ErrRange
		}
		for _, c := range []struct {
			s      api.LtScene
			column int
			e      api.Errno
		}{
			{wrong(), 1, api.ErrTwice}, {wrong(), 0, api.ErrTwice}, {example(), 1, api.ErrNone}, {example(), -1, api.ErrNone}, {example(), math.MinInt, api.ErrNone}, {example(), math.MaxInt, api.ErrNone},
			{api.LtScene{Surface: -1}, 0, api.ErrNone}, {example(), 0, patchError},
		} {
			if got, e := Frame(c.s, c.column, p); got != (api.LmRect{}) || e != c.e {
				t.Errorf("Frame(%d, %v) = %v, %d, want %d", c.column, p, got, e, c.e)
			}
		}
		if got, e := Lux(wrong(), p); got != (api.Encl{}) || e != api.ErrTwice {
			t.Errorf("Lux(%v) of a wrong scene = %v, %d", p, got, e)
		}
		if got, e := Lux(example(), p); (got == api.Encl{}) != (patchError != api.OK) || e != patchError {
			t.Errorf("Lux(%v) = %v, %d", p, got, e)
		}
		if got, e := Lux(api.LtScene{Surface: -1}, p); got != (api.Encl{}) || e != patchError {
			t.Errorf("Lux(%v) of an empty scene = %v, %d", p, got, e)
		}
	}
}

// P4.2
func TestLux(t *testing.T) {
	for _, c := range []struct {
		p    api.RdPatch
		want api.Encl
	}{
		{api.RdPatch{}, api.Encl{Lo: 50, Hi: 50}},
		{api.RdPatch{X0: -4000, X1: -4000}, api.Encl{Lo: 26, Hi: 27}},
		{api.RdPatch{X0: -4000, Y0: 0, X1: 4000, Y1: 8000}, api.Encl{Lo: 11, Hi: 75}},
		{api.RdPatch{Y0: 8001, Y1: 8001}, api.Encl{Lo: 0, Hi: 3}}, // 400 mcd, beyond the table
	} {
		if got, e := Lux(example(), c.p); got != c.want || e != api.OK {
			t.Errorf("Lux(%v) = %v, %d, want %v", c.p, got, e, c.want)
		}
	}
	s := example()
	s.Lamps[0] = -1
	if got, e := Lux(s, api.RdPatch{}); got != (api.Encl{}) || e != api.OK {
		t.Errorf("Lux without a lamp = %v, %d", got, e)
	}
}

// P4.2, P4.3: a tree whose shadow is a disc of the radius 2000 around (6000, 0).
func TestTreesInTheLight(t *testing.T) {
	s := example()
	s.Road.Trees = []api.RdTree{{X: 3000, R: 1000, Low: 39, High: 40}}
	open := example()
	for _, c := range []struct {
		p           api.RdPatch
		isDark, hit bool
	}{
		{api.RdPatch{X0: 6000, Y0: 0, X1: 6500, Y1: 100}, true, true}, {api.RdPatch{X0: 5000, Y0: 0, X1: 9000, Y1: 100}, false, true}, {api.RdPatch{X0: 0, Y0: 0, X1: 1000, Y1: 100}, false, false},
	} {
		lux, e := Lux(s, c.p)
		bright, f := Bright(s, c.p, 0, 1)
		wantLux, _ := Lux(open, c.p)
		wantBright, _ := Bright(open, c.p, 0, 1)
		if wantLux.Lo == 0 || wantBright.Lo == 0 {
			t.Fatalf("no light on %v", c.p)
		}
		if c.isDark {
			wantLux, wantBright = api.Encl{}, api.Encl{}
		} else if c.hit {
			wantLux.Lo, wantBright.Lo = 0, 0
		}
		if lux != wantLux || bright != wantBright || e != api.OK || f != api.OK {
			t.Errorf("%v: %v, %v, want %v, %v", c.p, lux, bright, wantLux, wantBright)
		}
	}
}

// P4.3
func TestBright(t *testing.T) {
	s := example()
	// Reflectances by where the lamp is, seen from the ground: left to right, and before to behind one.
	s.Catalog.Tables[1].Us, s.Catalog.Tables[1].Vs = []int{-1000, 0, 1000}, []int{-1000, 0, 1000}
	s.Catalog.Tables[1].Values = [][]int{{100, 200, 300}, {400, 500, 600}, {700, 800, 10000}}
	s.Catalog.Tables[1].Side = 40
	first := example()
	first.Surface = 0
	for _, c := range []struct {
		s      api.LtScene
		x, y   int
		dx, dy int
		want   api.Encl
	}{
		{example(), 0, 0, 0, 1, api.Encl{Lo: 3500, Hi: 3500}},
		{first, 0, 0, 0, 1, api.Encl{Lo: 2000, Hi: 2000}}, // 400
		{s, 0, 0, 0, 1, api.Encl{Lo: 2500, Hi: 2500}},
		{s, 0, 0, 3, -4, api.Encl{Lo: 2500, Hi: 2500}},
		{s, 0, 8000, 0, 1, api.Encl{Lo: 3000, Hi: 3000}},        // 4800 mcd; the lamp is behind: 400
		{s, 0, 8000, 0, -1000, api.Encl{Lo: 4500, Hi: 4500}},    // before: 600
		{s, 0, 8000, 1, 0, api.Encl{Lo: 6000, Hi: 6000}},        // to the right: 800
		{s, 0, 8000, -1, 0, api.Encl{Lo: 1500, Hi: 1500}},       // to the left: 200
		{s, -8000, -8000, 1, 0, api.Encl{Lo: 300, Hi: 400}},     // 800 mcd; before and to the left: 300, which makes 3.75
		{s, -8000, -8000, 0, 1, api.Encl{Lo: 12500, Hi: 12500}}, // before and to the right: 10000
		{s, 0, 8001, 0, 1, api.Encl{Lo: 0, Hi: 100}},            // beyond both tables: up to 400 mcd, and 40
	} {
		if got, e := Bright(c.s, api.RdPatch{X0: c.x, Y0: c.y, X1: c.x, Y1: c.y}, c.dx, c.dy); got != c.want || e != api.OK {
			t.Errorf("Bright at (%d, %d), seen to (%d, %d) = %v, %d, want %v", c.x, c.y, c.dx, c.dy, got, e, c.want)
		}
	}
}

// P4.3: the errors in their order.
func TestErrorsOfBright(t *testing.T) {
	for _, p := range noPatches() {
		if got, e := Bright(bare(), p, 0, 0); got != (api.Encl{}) || e != api.ErrRange {
			t.Errorf("Bright(%v) = %v, %d", p, got, e)
		}
	}
	for _, d := range noDirections() {
		if got, e := Bright(bare(), api.RdPatch{}, d[0], d[1]); got != (api.Encl{}) || e != api.ErrArg {
			t.Errorf("Bright to %v = %v, %d", d, got, e)
		}
	}
	if got, e := Bright(wrong(), noPatches()[0], 0, 0); got != (api.Encl{}) || e != api.ErrTwice {
		t.Errorf("Bright of a wrong scene = %v, %d", got, e)
	}
	if got, e := Bright(bare(), api.RdPatch{}, 1000, -1000); got != (api.Encl{}) || e != api.ErrNone {
		t.Errorf("Bright without a surface = %v, %d", got, e)
	}
	if _, e := Bright(example(), api.RdPatch{}, 1000, -1000); e != api.OK {
		t.Errorf("Bright to the greatest direction: %d", e)
	}
}

// noDirections returns pairs of numbers that are no directions.
func noDirections() [][2]int {
	return [][2]int{{0, 0}, {1001, 0}, {-1001, 1}, {0, 1001}, {1, -1001}, {math.MinInt, 1}, {1, math.MaxInt}}
}

// P4.6
func TestSkyAndPower(t *testing.T) {
	s := example()
	if got, e := Sky(s); got != 40 || e != api.OK {
		t.Errorf("Sky = %d, %d", got, e)
	}
	if got, e := Power(s); got != (api.Encl{Lo: 57000, Hi: 63000}) || e != api.OK {
		t.Errorf("Power = %v, %d", got, e)
	}
	s.Uses[0] = api.LmUse{Hours: 10000, Months: 6, Level: 500}
	s.Road.Columns = append(s.Road.Columns, api.RdColumn{Name: "c2", X: 5, Height: 1, DX: 1}, api.RdColumn{Name: "c3", X: 5, Height: 200, DX: 1})
	s.Lamps = append(s.Lamps, -1, 0)
	s.Uses = append(s.Uses, api.LmUse{Level: 1000}, api.LmUse{Level: 0})
	if got, e := Sky(s); got != 20 || e != api.OK { // 5 by 3850 by 1000, up
		t.Errorf("Sky = %d, %d", got, e)
	}
	if got, e := Power(s); got != (api.Encl{Lo: 28737 + 475, Hi: 31763 + 525}) || e != api.OK {
		t.Errorf("Power = %v, %d", got, e)
	}
	for _, c := range []struct {
		s api.LtScene
		e api.Errno
	}{{api.LtScene{Surface: -1}, api.OK}, {wrong(), api.ErrTwice}} {
		if got, e := Sky(c.s); got != 0 || e != c.e {
			t.Errorf("Sky = %d, %d, want %d", got, e, c.e)
		}
		if got, e := Power(c.s); got != (api.Encl{}) || e != c.e {
			t.Errorf("Power = %v, %d, want %d", got, e, c.e)
		}
	}
}
