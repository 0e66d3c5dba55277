package light

import (
	"math"
	"testing"

	"linkboy/api"
)

// even returns a scene with one lamp, of this height in dm, that has 1000 mcd in all directions of its table.
func even(height int) api.LtScene {
	s := example()
	t := &s.Catalog.Tables[0]
	t.Us, t.Vs = []int{-5000, 5000}, []int{-5000, 5000}
	t.Values = [][]int{{1000, 1000}, {1000, 1000}}
	t.Side, t.Sky = 1000, 0
	s.Catalog.Lamps[0].Lumens = 1000
	s.Road.Columns[0].Height = height
	return s
}

// P4.4
func TestVeil(t *testing.T) {
	treed := even(35)
	treed.Road.Trees = []api.RdTree{{Y: -1000, R: 1000, Low: 0, High: 1000}}
	dark := even(35)
	dark.Lamps[0] = -1
	two := even(35)
	two.Road.Columns = append(two.Road.Columns, two.Road.Columns[0])
	two.Road.Columns[1].Name = "c2"
	two.Lamps, two.Uses = []int{0, 0}, append(two.Uses, two.Uses[0])
	ahead := api.LtView{Y: -10000, DY: 1}
	for i, c := range []struct {
		s    api.LtScene
		v    api.LtView
		want api.Encl
	}{
		{example(), api.LtView{Y: -6500, DY: 1}, api.Encl{Lo: 36, Hi: 232}}, // 45 degrees off
		{example(), api.LtView{Y: -6500, DY: 1000}, api.Encl{Lo: 36, Hi: 232}},
		{example(), api.LtView{Y: -6499, DY: 1}, api.Encl{}},
		{even(35), ahead, api.Encl{Lo: 456, Hi: 826}},
		{even(35), api.LtView{X: 6000, Y: -8000, DX: -600, DY: 800}, api.Encl{Lo: 456, Hi: 826}},
		{treed, ahead, api.Encl{Lo: 456, Hi: 826}}, // trees do not count
		{two, ahead, api.Encl{Lo: 912, Hi: 1652}},
		{dark, ahead, api.Encl{}},
		{even(35), api.LtView{Y: -10000, DY: -1}, api.Encl{}}, // behind
		{even(35), api.LtView{Y: 10000, DY: 1}, api.Encl{}},
		{even(35), api.LtView{Y: -10000, DX: 1}, api.Encl{}},
		{even(35), api.LtView{X: 2000, DY: 1}, api.Encl{}},
		// 100 mm above the eye: an angle of 26 per mille is the least that counts
		{even(16), ahead, api.Encl{Lo: 0, Hi: 45135}},
		{even(15), ahead, api.Encl{}}, // not above the eye
		{even(14), ahead, api.Encl{}},
	} {
		if got, e := Veil(c.s, c.v); got != c.want || e != api.OK {
			t.Errorf("view %d: Veil(%v) = %v, %d, want %v", i, c.v, got, e, c.want)
		}
	}
}

// P4.4: the angle between a lamp and the view, at 45 degrees, is exact: 2000 mm up and 1500 aside are 2500 off.
func TestLampsThatCount(t *testing.T) {
	for _, c := range []struct {
		x, y, dx, dy int
		counts       bool
	}{
		{1500, -2500, 0, 1, true}, {1500, -2499, 0, 1, false}, {1501, -2500, 0, 1, false}, {-1500, -2500, 0, 7, true}, {-1501, -2500, 0, 7, false},
		{2500, 1500, -1, 0, true}, {2499, 1500, -1, 0, false}, {-2500, 1500, 1, 0, true}, {-2500, 1500, -1, 0, false},
		{300 * 3, -300 * 4, -3, 4, false}, {400 * 3, -400 * 4, -3, 4, true}, {399 * 3, -399 * 4, -3, 4, false},
	} {
		v := api.LtView{X: c.x, Y: c.y, DX: c.dx, DY: c.dy}
		if got, e := Veil(even(35), v); (got.Lo > 0) != c.counts || (got.Hi > 0) != c.counts || e != api.OK {
			t.Errorf("Veil(%v) = %v, %d", v, got, e)
		}
	}
}

// P4.4: the errors in their order.
func TestErrorsOfVeil(t *testing.T) {
	for _, v := range []api.LtView{{X: 100001}, {X: -100001, DX: 1}, {Y: 100001, DX: 1001}, {Y: -100001, DX: 1}, {X: math.MinInt, DX: 1}, {Y: math.MaxInt, DX: 1}} {
		if got, e := Veil(even(35), v); got != (api.Encl{}) || e != api.ErrRange {
			t.Errorf("Veil(%v) = %v, %d", v, got, e)
		}
	}
	for _, d := range noDirections() {
		if got, e := Veil(even(35), api.LtView{Y: -10000, DX: d[0], DY: d[1]}); got != (api.Encl{}) || e != api.ErrArg {
			t.Errorf("Veil to %v = %v, %d", d, got, e)
		}
	}
	if got, e := Veil(wrong(), api.LtView{X: 100001}); got != (api.Encl{}) || e != api.ErrTwice {
		t.Errorf("Veil of a wrong scene = %v, %d", got, e)
	}
	for _, v := range []api.LtView{{X: 100000, Y: -100000, DX: 1000, DY: -1000}, {X: -100000, Y: 100000, DX: -1000, DY: 1000}} {
		if _, e := Veil(even(35), v); e != api.OK {
			t.Errorf("Veil(%v): %d", v, e)
		}
		if got, e := Veil(api.LtScene{Surface: -1}, v); got != (api.Encl{}) || e != api.OK {
			t.Errorf("Veil(%v) of an empty scene = %v, %d", v, got, e)
		}
	}
}
