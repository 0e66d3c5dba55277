package lamp

import (
	"math"
	"strings"
	"testing"

	"linkboy/api"
)

// wide is the table of the chapter's examples.
func wide() api.LmTable {
	return api.LmTable{
		Name:   "wide",
		Us:     []int{-1000, 0, 2000},
		Vs:     []int{-1000, 1000},
		Values: [][]int{{100, 300}, {200, 600}, {0, 100}},
		Side:   50,
		Sky:    5,
	}
}

// head is the lamp of the chapter's examples.
func head() api.LmLamp {
	return api.LmLamp{
		Name: "head", Table: 0, Kind: api.LmLed, Lumens: 8000, Power: 60000, Standing: 500, Tolerance: 50,
		Ageing: api.Encl{Lo: 2, Hi: 4}, Dirt: api.Encl{Lo: 3, Hi: 5}, Life: 100000, Dim: 200,
	}
}

// example is the catalogue of the chapter's examples.
func example() api.LmCatalog {
	return api.LmCatalog{Tables: []api.LmTable{wide()}, Lamps: []api.LmLamp{head()}}
}

// broken is a catalogue of which Check says ErrNone.
func broken() api.LmCatalog {
	c := example()
	c.Lamps[0].Table = 1
	return c
}

// x returns an enclosure.
func x(lo, hi int) api.Encl { return api.Encl{Lo: lo, Hi: hi} }

// holds reports whether an enclosure contains another one, but for a slack at each end.
func holds(a, b api.Encl, slack int) bool { return a.Lo-slack <= b.Lo && b.Hi <= a.Hi+slack }

// P2.1
func TestName(t *testing.T) {
	for _, s := range []string{"a", "z", "wide", "a1", "a-", "a--9", "az0-", strings.Repeat("q", 24)} {
		if !Name(s) {
			t.Errorf("Name(%q) is false", s)
		}
	}
	for _, s := range []string{"", "1a", "-a", "A", "aB", "a b", "a_b", "a.", "a\n", "ä", "aä", "a`", "a{", "`", "{", "a/", "a:", strings.Repeat("q", 25)} {
		if Name(s) {
			t.Errorf("Name(%q) is true", s)
		}
	}
}

// P2.6
func TestFlux(t *testing.T) {
	full := api.LmUse{Hours: 10000, Months: 6, Level: 1000}
	weak := head()
	weak.Ageing, weak.Dirt = x(5, 1000), x(2, 1000)
	odd := head()
	odd.Lumens, odd.Ageing, odd.Dirt = 7, x(1, 1), x(1, 1)
	c := example()
	for _, lamp := range []api.LmLamp{weak, odd} {
		lamp.Name += strings.Repeat("x", len(c.Lamps))
		c.Lamps = append(c.Lamps, lamp)
	}
	for _, test := range []struct {
		lamp int
		use  api.LmUse
		want api.Encl
		e    api.Errno
	}{
		{0, full, x(7449, 7699), api.OK},
		{0, api.LmUse{Hours: 10000, Months: 6, Level: 500}, x(3724, 3850), api.OK},
		{0, api.LmUse{Level: 1000}, x(8000, 8000), api.OK},
		{0, api.LmUse{}, x(0, 0), api.OK},
		{0, api.LmUse{Hours: 200000, Months: 600, Level: 1000}, x(0, 0), api.OK},
		{0, api.LmUse{Hours: 200000, Level: 1000}, x(1600, 4800), api.OK},
		// the Hi of Ageing leaves less than nothing
		{1, api.LmUse{Hours: 2000, Level: 1000}, x(0, 7920), api.OK},
		{1, api.LmUse{Hours: 200000, Months: 400, Level: 1000}, x(0, 0), api.OK},
		{1, api.LmUse{Months: 1, Level: 1000}, x(0, 7984), api.OK},
		// each share is rounded: 7 to 6.99.. to 6, 5.99.. to 5, 2.5 to 2
		{2, api.LmUse{Hours: 1, Months: 1, Level: 500}, x(2, 4), api.OK},
		{2, api.LmUse{Hours: 1, Months: 0, Level: 1000}, x(6, 7), api.OK},
		{3, full, x(0, 0), api.ErrNone}, {-1, full, x(0, 0), api.ErrNone}, {math.MinInt, api.LmUse{Hours: -1}, x(0, 0), api.ErrNone},
		{0, api.LmUse{Hours: -1}, x(0, 0), api.ErrRange}, {0, api.LmUse{Hours: 200001}, x(0, 0), api.ErrRange},
		{0, api.LmUse{Months: -1}, x(0, 0), api.ErrRange}, {0, api.LmUse{Months: 601}, x(0, 0), api.ErrRange},
		{0, api.LmUse{Level: -1}, x(0, 0), api.ErrRange}, {0, api.LmUse{Level: 1001}, x(0, 0), api.ErrRange},
	} {
		if got, e := Flux(c, test.lamp, test.use); got != test.want || e != test.e {
			t.Errorf("Flux(%d, %v) = %v, %d, want %v, %d", test.lamp, test.use, got, e, test.want, test.e)
		}
	}
	c.Tables[0].Side = -1
	if got, e := Flux(c, -1, full); got != x(0, 0) || e != api.ErrRange {
		t.Errorf("a catalogue with an error: %v, %d", got, e)
	}
}

// P2.6
func TestPower(t *testing.T) {
	c := example()
	dark := head()
	dark.Name, dark.Power, dark.Standing, dark.Tolerance = "dark", 7, 7, 1000
	exact := head()
	exact.Name, exact.Power, exact.Standing, exact.Tolerance = "exact", 1000, 0, 0
	tenth := head()
	tenth.Name, tenth.Power, tenth.Standing, tenth.Tolerance = "tenth", 112, 0, 100
	c.Lamps = append(c.Lamps, dark, exact, tenth)
	for _, test := range []struct {
		lamp, level int
		want        api.Encl
		e           api.Errno
	}{
		{0, 1000, x(57000, 63000), api.OK}, {0, 500, x(28737, 31763), api.OK}, {0, 0, x(475, 525), api.OK},
		// 500 and 59.5, which is not rounded
		{0, 1, x(531, 588), api.OK},
		{1, 0, x(0, 14), api.OK}, {1, 1000, x(0, 14), api.OK}, {1, 333, x(0, 14), api.OK},
		{2, 0, x(0, 0), api.OK}, {2, 777, x(777, 777), api.OK}, {2, 1000, x(1000, 1000), api.OK},
		// 11.2, which is not rounded
		{3, 100, x(10, 13), api.OK},
		{4, 0, x(0, 0), api.ErrNone}, {-1, -1, x(0, 0), api.ErrNone},
		{0, -1, x(0, 0), api.ErrRange}, {0, 1001, x(0, 0), api.ErrRange}, {0, math.MaxInt, x(0, 0), api.ErrRange},
	} {
		if got, e := Power(c, test.lamp, test.level); got != test.want || e != test.e {
			t.Errorf("Power(%d, %d) = %v, %d, want %v, %d", test.lamp, test.level, got, e, test.want, test.e)
		}
	}
	c.Tables[0].Us[0] = 0
	if got, e := Power(c, 9, 0); got != x(0, 0) || e != api.ErrArg {
		t.Errorf("a catalogue with an error: %v, %d", got, e)
	}
}

// P2.6
func TestLevel(t *testing.T) {
	c := example()
	any, none := head(), head()
	any.Name, any.Dim = "any", 0
	none.Name, none.Dim = "none", 1000
	c.Lamps = append(c.Lamps, any, none)
	for _, test := range []struct {
		lamp, want, level int
		e                 api.Errno
	}{
		{0, 100, 200, api.OK}, {0, 0, 0, api.OK}, {0, 700, 700, api.OK}, {0, 2000, 1000, api.OK},
		{0, 199, 200, api.OK}, {0, 200, 200, api.OK}, {0, 201, 201, api.OK}, {0, 1, 200, api.OK}, {0, -1, 0, api.OK},
		{0, math.MaxInt, 1000, api.OK}, {0, math.MinInt, 0, api.OK}, {0, 1001, 1000, api.OK},
		{1, 1, 1, api.OK}, {1, 0, 0, api.OK}, {1, 999, 999, api.OK},
		{2, 1, 1000, api.OK}, {2, 0, 0, api.OK}, {2, 1500, 1000, api.OK},
		{3, 700, 0, api.ErrNone}, {-1, 0, 0, api.ErrNone}, {math.MaxInt, 700, 0, api.ErrNone},
	} {
		if got, e := Level(c, test.lamp, test.want); got != test.level || e != test.e {
			t.Errorf("Level(%d, %d) = %d, %d, want %d, %d", test.lamp, test.want, got, e, test.level, test.e)
		}
	}
	c.Lamps[1].Name = "head"
	if got, e := Level(c, 9, 100); got != 0 || e != api.ErrTwice {
		t.Errorf("a catalogue with an error: %d, %d", got, e)
	}
}

// P2.7
func TestTowards(t *testing.T) {
	use := api.LmUse{Hours: 10000, Months: 6, Level: 1000}
	late := api.LmUse{Hours: 200001}
	near := api.LmRect{X0: -4000, X1: 4000, Y0: 0, Y1: 8000}
	for _, test := range []struct {
		lamp int
		use  api.LmUse
		r    api.LmRect
		h    int
		want api.Encl
		e    api.Errno
	}{
		{0, use, near, 8000, x(2234, 4620), api.OK},
		// 400 mcd, 7449 to 7699 lumens: 2979.6 to 3079.6
		{0, use, api.LmRect{}, 8000, x(2979, 3080), api.OK},
		{0, api.LmUse{Level: 1000}, api.LmRect{}, 8000, x(3200, 3200), api.OK},
		{0, api.LmUse{}, near, 8000, x(0, 0), api.OK},
		{0, api.LmUse{Level: 1000}, api.LmRect{X0: 9000, X1: 9000, Y0: 9000, Y1: 9000}, 3, x(0, 400), api.OK},
		{1, late, near, 0, x(0, 0), api.ErrNone},
		{-1, use, near, 8000, x(0, 0), api.ErrNone},
		{0, late, api.LmRect{X0: 1}, 8000, x(0, 0), api.ErrRange},
		{0, use, near, 0, x(0, 0), api.ErrRange},
		{0, use, api.LmRect{X1: 200001}, 8000, x(0, 0), api.ErrRange},
		{0, use, api.LmRect{X0: 1}, 8000, x(0, 0), api.ErrArg},
	} {
		if got, e := Towards(example(), test.lamp, test.use, test.r, test.h); got != test.want || e != test.e {
			t.Errorf("Towards(%d, %v, %v, %d) = %v, %d, want %v, %d", test.lamp, test.use, test.r, test.h, got, e, test.want, test.e)
		}
	}
	if got, e := Towards(broken(), 7, late, near, 0); got != x(0, 0) || e != api.ErrNone {
		t.Errorf("a catalogue with an error: %v, %d", got, e)
	}
	c := example()
	c.Lamps[0].Restrike = 1
	if got, e := Towards(c, 7, late, near, 0); got != x(0, 0) || e != api.ErrArg {
		t.Errorf("a catalogue with an error: %v, %d", got, e)
	}
}

// P2.7: a lamp has its own table.
func TestTowardsHasTheTableOfTheLamp(t *testing.T) {
	c := example()
	other := wide()
	other.Name = "other"
	other.Values[1] = []int{1000, 1000}
	c.Tables = append(c.Tables, other)
	second := head()
	second.Name, second.Table = "second", 1
	c.Lamps = append(c.Lamps, second)
	if got, e := Towards(c, 1, api.LmUse{Level: 1000}, api.LmRect{}, 8000); got != x(8000, 8000) || e != api.OK {
		t.Errorf("Towards = %v, %d", got, e)
	}
}
