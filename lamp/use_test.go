package lamp

import (
	"math"
	"math/rand"
	"reflect"
	"slices"
	"strings"
	"testing"

	"linkboy/api"
)

// P2.12
func TestOlderOrDirtierOrDimmedIsNotBrighter(t *testing.T) {
	r := rand.New(rand.NewSource(212))
	for range 3000 {
		c := randomCatalog(r)
		if len(c.Lamps) == 0 {
			continue
		}
		lamp := r.Intn(len(c.Lamps))
		use := api.LmUse{Hours: r.Intn(200001), Months: r.Intn(601), Level: r.Intn(1001)}
		if r.Intn(2) == 0 {
			use.Hours, use.Months = r.Intn(1000), r.Intn(10)
		}
		less := use
		switch r.Intn(3) {
		case 0:
			less.Hours += r.Intn(200001 - use.Hours)
		case 1:
			less.Months += r.Intn(601 - use.Months)
		case 2:
			less.Level = r.Intn(use.Level + 1)
		}
		a, _ := Flux(c, lamp, use)
		b, e := Flux(c, lamp, less)
		if e != api.OK || b.Lo > a.Lo || b.Hi > a.Hi || a.Lo > a.Hi {
			t.Fatalf("%v: Flux %v in %v, %v in %v", c.Lamps[lamp], a, use, b, less)
		}
		dx, dy, h := randomPlace(r, c.Tables[c.Lamps[lamp].Table])
		rect := api.LmRect{X0: dx, X1: min(dx+r.Intn(3000), 200000), Y0: dy, Y1: min(dy+r.Intn(3000), 200000)}
		a, _ = Towards(c, lamp, use, rect, h)
		b, e = Towards(c, lamp, less, rect, h)
		if e != api.OK || b.Lo > a.Lo || b.Hi > a.Hi || a.Lo > a.Hi {
			t.Fatalf("%v: Towards %v in %v, %v in %v", c.Lamps[lamp], a, use, b, less)
		}
	}
}

// P2.12
func TestMoreLevelIsMorePower(t *testing.T) {
	r := rand.New(rand.NewSource(2120))
	for range 1000 {
		c := randomCatalog(r)
		for lamp := range c.Lamps {
			level := r.Intn(1000)
			a, _ := Power(c, lamp, level)
			b, e := Power(c, lamp, level+1+r.Intn(1000-level))
			if e != api.OK || a.Lo > b.Lo || a.Hi > b.Hi || a.Lo > a.Hi {
				t.Fatalf("%v: Power %v, and %v with more", c.Lamps[lamp], a, b)
			}
			first, _ := Level(c, lamp, r.Intn(1300)-100)
			if again, e := Level(c, lamp, first); again != first || e != api.OK {
				t.Fatalf("%v: Level %d, then %d", c.Lamps[lamp], first, again)
			}
		}
	}
}

// extremes are integers at and beyond limits.
var extremes = []int{math.MinInt, math.MinInt + 1, -1 << 32, -200001, -1, 0, 1, 2, 3, 8000, 30000, 200000, 1 << 32, math.MaxInt - 1, math.MaxInt}

// strange returns a catalogue of any numbers, lists and names.
func strange(r *rand.Rand) api.LmCatalog {
	c := randomCatalog(r)
	if len(c.Lamps) > 0 {
		l := &c.Lamps[r.Intn(len(c.Lamps))]
		*[]*int{&l.Table, &l.Kind, &l.Lumens, &l.Power, &l.Standing, &l.Ageing.Lo, &l.Dirt.Hi, &l.Restrike}[r.Intn(8)] = anyOf(r, extremes)
	}
	t := &c.Tables[r.Intn(len(c.Tables))]
	switch r.Intn(6) {
	case 0:
		t.Us[r.Intn(len(t.Us))] = anyOf(r, extremes)
	case 1:
		t.Vs = nil
	case 2:
		t.Values[r.Intn(len(t.Values))] = nil
	case 3:
		t.Side = anyOf(r, extremes)
	case 4:
		c.Tables = nil
	}
	return c
}

func anyOf[T any](r *rand.Rand, list []T) T { return list[r.Intn(len(list))] }

// copyOf returns a catalogue that shares no memory with another one.
func copyOf(c api.LmCatalog) api.LmCatalog {
	c.Tables, c.Lamps = slices.Clone(c.Tables), slices.Clone(c.Lamps)
	for i := range c.Tables {
		t := &c.Tables[i]
		t.Us, t.Vs, t.Values = slices.Clone(t.Us), slices.Clone(t.Vs), slices.Clone(t.Values)
		for k := range t.Values {
			t.Values[k] = slices.Clone(t.Values[k])
		}
	}
	return c
}

// P2.13
func TestAnyArguments(t *testing.T) {
	r := rand.New(rand.NewSource(213))
	number := func() int { return anyOf(r, extremes) }
	for range 20000 {
		c := strange(r)
		before := copyOf(c)
		rect := api.LmRect{X0: number(), X1: number(), Y0: number(), Y1: number()}
		use := api.LmUse{Hours: number(), Months: number(), Level: number()}
		_, _, bad := Check(c)
		results := []api.Encl{}
		errors := []api.Errno{}
		keep := func(x api.Encl, e api.Errno) { results, errors = append(results, x), append(errors, e) }
		keep(Intensity(c, number(), number(), number(), number()))
		keep(Over(c, number(), rect, number()))
		keep(Share(c, number(), number()))
		keep(Flux(c, number(), use))
		keep(Power(c, number(), number()))
		keep(Towards(c, number(), use, rect, number()))
		level, e := Level(c, number(), number())
		keep(x(level, level), e)
		text, e := Print(c)
		keep(x(len(text), 0), e)
		for i, e := range errors {
			if e != api.OK && results[i] != x(0, 0) {
				t.Fatalf("call %d: %v with the error %d", i, results[i], e)
			}
			if bad != api.OK && e != bad {
				t.Fatalf("call %d: the error %d, but that of Check is %d", i, e, bad)
			}
		}
		if !reflect.DeepEqual(c, before) {
			t.Fatalf("%v was changed to %v", before, c)
		}
	}
}

// P2.13
func TestParseOfAnyText(t *testing.T) {
	r := rand.New(rand.NewSource(2130))
	for range 20000 {
		text := []byte(exampleText + lampText)
		for range 1 + r.Intn(3) {
			at := r.Intn(len(text))
			switch r.Intn(3) {
			case 0:
				text[at] = byte(r.Intn(256))
			case 1:
				text = slices.Delete(text, at, min(at+r.Intn(20), len(text)))
			case 2:
				text = slices.Insert(text, at, []byte(anyOf(r, strings.SplitAfter(exampleText, " ")))...)
			}
		}
		c, line, e := Parse(string(text))
		if e == api.OK && line != 0 || e != api.OK && (line < 1 || !reflect.DeepEqual(c, api.LmCatalog{})) {
			t.Fatalf("Parse(%q) = %v, %d, %d", text, c, line, e)
		}
	}
}

// P2.13: no list of a result shares its memory with another one.
func TestListsOfAResultAreApart(t *testing.T) {
	c, _, _ := Parse(exampleText)
	other, _, _ := Parse(exampleText)
	table := &c.Tables[0]
	for _, list := range [][]int{table.Us, table.Vs, table.Values[0], table.Values[1]} {
		for i := range list {
			list[i] = -7
		}
		_ = append(list, -7, -7)
	}
	if !slices.Equal(table.Values[2], []int{0, 100}) || !reflect.DeepEqual(other, example()) {
		t.Errorf("lists share memory: %v, %v", c, other)
	}
}
