package lamp

import (
	"math"
	"strconv"
	"testing"

	"linkboy/api"
)

// fault is a change of a catalogue that brings an error.
type fault struct {
	name string
	make func(c *api.LmCatalog)
	e    api.Errno
}

// large is a catalogue of three tables and three lamps.
func large() api.LmCatalog {
	var c api.LmCatalog
	for _, name := range []string{"a", "b", "c"} {
		t, l := wide(), head()
		t.Name, l.Name = name, name
		l.Kind = api.LmMetal
		c.Tables = append(c.Tables, t)
		c.Lamps = append(c.Lamps, l)
	}
	return c
}

// tableFaults are errors of table at of a large catalogue, those named first before the others; faults of one rank are not in order.
func tableFaults(at int) [][]fault {
	table := func(e api.Errno, name string, change func(t *api.LmTable)) fault {
		return fault{name, func(c *api.LmCatalog) { change(&c.Tables[at]) }, e}
	}
	return [][]fault{
		{
			table(api.ErrForm, "no name", func(t *api.LmTable) { t.Name = "A" }),
			table(api.ErrTwice, "a name twice", func(t *api.LmTable) { t.Name = "a" }),
		},
		{
			table(api.ErrLong, "no us", func(t *api.LmTable) { t.Us = nil }),
			table(api.ErrLong, "one of us", func(t *api.LmTable) { t.Us = t.Us[:1] }),
			table(api.ErrLong, "too many us", func(t *api.LmTable) { t.Us = make([]int, 13) }),
			table(api.ErrLong, "empty vs", func(t *api.LmTable) { t.Vs = []int{} }),
			table(api.ErrLong, "one of vs", func(t *api.LmTable) { t.Vs = t.Vs[:1] }),
			table(api.ErrLong, "too many vs", func(t *api.LmTable) { t.Vs = make([]int, 13) }),
		},
		{
			table(api.ErrRange, "us too low", func(t *api.LmTable) { t.Us = []int{-5001, 0, 1} }),
			table(api.ErrRange, "us too high", func(t *api.LmTable) { t.Us = []int{0, 1, 5001} }),
			table(api.ErrRange, "vs too low", func(t *api.LmTable) { t.Vs = []int{math.MinInt, 0} }),
			table(api.ErrRange, "vs too high", func(t *api.LmTable) { t.Vs = []int{0, math.MaxInt} }),
		},
		{
			table(api.ErrArg, "us descend", func(t *api.LmTable) { t.Us = []int{0, 2, 1} }),
			table(api.ErrArg, "one of us twice", func(t *api.LmTable) { t.Us = []int{0, 2, 2} }),
			table(api.ErrArg, "vs descend", func(t *api.LmTable) { t.Vs = []int{1, 0} }),
			table(api.ErrArg, "one of vs twice", func(t *api.LmTable) { t.Vs = []int{1, 1} }),
		},
		{
			table(api.ErrForm, "no values", func(t *api.LmTable) { t.Values = nil }),
			table(api.ErrForm, "a row too few", func(t *api.LmTable) { t.Values = [][]int{{1, 2}, {3, -1}} }),
			table(api.ErrForm, "a row too many", func(t *api.LmTable) { t.Values = append(t.Values, []int{-1, 2}) }),
			table(api.ErrForm, "a short row", func(t *api.LmTable) { t.Values[0] = []int{-1} }),
			table(api.ErrForm, "a long row", func(t *api.LmTable) { t.Values[2] = []int{1, 2, -1} }),
			table(api.ErrForm, "a nil row", func(t *api.LmTable) { t.Values[1] = nil }),
		},
		{
			table(api.ErrRange, "a value below 0", func(t *api.LmTable) { t.Values = [][]int{{0, -1}, {0, 0}, {0, 0}} }),
			table(api.ErrRange, "a value too high", func(t *api.LmTable) { t.Values = [][]int{{0, 0}, {0, 0}, {0, 10000001}} }),
			table(api.ErrRange, "side below 0", func(t *api.LmTable) { t.Side = -1 }),
			table(api.ErrRange, "side too high", func(t *api.LmTable) { t.Side = 10000001 }),
			table(api.ErrRange, "sky below 0", func(t *api.LmTable) { t.Sky = math.MinInt }),
			table(api.ErrRange, "sky too high", func(t *api.LmTable) { t.Sky = 10000001 }),
		},
	}
}

// lampFaults are errors of lamp at, like tableFaults.
func lampFaults(at int) [][]fault {
	lamp := func(e api.Errno, name string, change func(l *api.LmLamp)) fault {
		return fault{name, func(c *api.LmCatalog) { change(&c.Lamps[at]) }, e}
	}
	outOfRange := func(name string, change func(l *api.LmLamp)) fault { return lamp(api.ErrRange, name, change) }
	return [][]fault{
		{
			lamp(api.ErrForm, "no name", func(l *api.LmLamp) { l.Name = "" }),
			lamp(api.ErrTwice, "a name twice", func(l *api.LmLamp) { l.Name = "a" }),
		},
		{
			lamp(api.ErrNone, "a table below 0", func(l *api.LmLamp) { l.Table = -1 }),
			lamp(api.ErrNone, "a table too high", func(l *api.LmLamp) { l.Table = 3 }),
		},
		{
			lamp(api.ErrArg, "kind 0", func(l *api.LmLamp) { l.Kind = 0 }),
			lamp(api.ErrArg, "kind 4", func(l *api.LmLamp) { l.Kind = 4 }),
			lamp(api.ErrArg, "a kind below 0", func(l *api.LmLamp) { l.Kind = math.MinInt }),
		},
		{
			outOfRange("no lumens", func(l *api.LmLamp) { l.Lumens = 0 }),
			outOfRange("too many lumens", func(l *api.LmLamp) { l.Lumens = 1000001 }),
			outOfRange("no power", func(l *api.LmLamp) { l.Power, l.Standing = 0, 0 }),
			outOfRange("too much power", func(l *api.LmLamp) { l.Power = 5000001 }),
			outOfRange("standing below 0", func(l *api.LmLamp) { l.Standing = -1 }),
			outOfRange("standing above power", func(l *api.LmLamp) { l.Standing = l.Power + 1 }),
			outOfRange("tolerance below 0", func(l *api.LmLamp) { l.Tolerance = -1 }),
			outOfRange("too much tolerance", func(l *api.LmLamp) { l.Tolerance = 1001 }),
			outOfRange("ageing below 0", func(l *api.LmLamp) { l.Ageing = x(-1, 4) }),
			outOfRange("too much ageing", func(l *api.LmLamp) { l.Ageing = x(4, 1001) }),
			outOfRange("ageing not valid", func(l *api.LmLamp) { l.Ageing = x(5, 4) }),
			outOfRange("dirt below 0", func(l *api.LmLamp) { l.Dirt = x(-1, 4) }),
			outOfRange("too much dirt", func(l *api.LmLamp) { l.Dirt = x(4, 1001) }),
			outOfRange("dirt not valid", func(l *api.LmLamp) { l.Dirt = x(1, 0) }),
			outOfRange("no life", func(l *api.LmLamp) { l.Life = 0 }),
			outOfRange("too long a life", func(l *api.LmLamp) { l.Life = 200001 }),
			outOfRange("dim below 0", func(l *api.LmLamp) { l.Dim = -1 }),
			outOfRange("too much dim", func(l *api.LmLamp) { l.Dim = 1001 }),
			outOfRange("restrike below 0", func(l *api.LmLamp) { l.Restrike = -1 }),
			outOfRange("too long a restrike", func(l *api.LmLamp) { l.Restrike = 3601 }),
		},
		{
			lamp(api.ErrArg, "an led with a restrike", func(l *api.LmLamp) { l.Kind, l.Restrike = api.LmLed, 1 }),
		},
	}
}

// checkFaults makes faults in large catalogues and compares what Check says.
func checkFaults(t *testing.T, part, at int, e api.Errno, faults ...fault) {
	t.Helper()
	c, name := large(), ""
	for _, f := range faults {
		f.make(&c)
		name += " " + f.name
	}
	if gotPart, gotAt, got := Check(c); gotPart != part || gotAt != at || got != e {
		t.Errorf("Check with%s = %d, %d, %d, want %d, %d, %d", name, gotPart, gotAt, got, part, at, e)
	}
}

// P2.1
func TestCheckFindsEachError(t *testing.T) {
	for part, faults := range map[int]func(int) [][]fault{1: tableFaults, 2: lampFaults} {
		for at := 1; at < 3; at++ {
			for _, rank := range faults(at) {
				for _, f := range rank {
					checkFaults(t, part, at, f.e, f)
				}
			}
		}
	}
}

// P2.1
func TestCheckOrdersErrorsOfOneElement(t *testing.T) {
	for part, faults := range map[int]func(int) [][]fault{1: tableFaults, 2: lampFaults} {
		ranks := faults(1)
		for i := range ranks {
			for _, later := range ranks[i+1:] {
				for _, f := range ranks[i] {
					for _, g := range later {
						// the later one first: it may need what the earlier one takes away
						both := large()
						g.make(&both)
						f.make(&both)
						if gotPart, at, e := Check(both); gotPart != part || at != 1 || e != f.e {
							t.Errorf("Check with %s and %s = %d, %d, %d, want %d", f.name, g.name, gotPart, at, e, f.e)
						}
					}
				}
			}
		}
	}
}

// P2.1: the first element with an error decides, and tables come before lamps.
func TestCheckTakesTheFirstElement(t *testing.T) {
	for part, faults := range map[int]func(int) [][]fault{1: tableFaults, 2: lampFaults} {
		for _, rank := range faults(1) {
			for _, others := range faults(2) {
				checkFaults(t, part, 1, rank[0].e, rank[0], others[0])
			}
		}
	}
	for _, tables := range tableFaults(2) {
		for _, lamps := range lampFaults(0) {
			checkFaults(t, 1, 2, tables[0].e, tables[0], lamps[0])
		}
	}
}

// P2.1
func TestCheckTakesAllThatIsAllowed(t *testing.T) {
	for _, change := range []func(c *api.LmCatalog){
		func(c *api.LmCatalog) {},
		func(c *api.LmCatalog) { *c = api.LmCatalog{} },
		func(c *api.LmCatalog) { c.Lamps = nil },
		func(c *api.LmCatalog) {
			c.Tables[0].Us, c.Tables[0].Vs = []int{-5000, 5000}, []int{-1, 0}
			c.Tables[0].Values = [][]int{{0, 10000000}, {10000000, 0}}
			c.Tables[0].Side, c.Tables[0].Sky = 10000000, 10000000
		},
		func(c *api.LmCatalog) {
			c.Tables[0].Us, c.Tables[0].Values = nil, nil
			for u := range 12 {
				c.Tables[0].Us = append(c.Tables[0].Us, u)
				c.Tables[0].Values = append(c.Tables[0].Values, []int{0, 0})
			}
		},
		func(c *api.LmCatalog) {
			c.Tables[0].Vs, c.Tables[0].Values = nil, make([][]int, 3)
			for v := range 12 {
				c.Tables[0].Vs = append(c.Tables[0].Vs, v)
				for u := range 3 {
					c.Tables[0].Values[u] = append(c.Tables[0].Values[u], v)
				}
			}
		},
		func(c *api.LmCatalog) {
			c.Lamps[0] = api.LmLamp{
				Name: "least", Table: 2, Kind: api.LmLed, Lumens: 1, Power: 1, Life: 1,
			}
			c.Lamps[1] = api.LmLamp{
				Name: "most", Kind: api.LmSodium, Lumens: 1000000, Power: 5000000, Standing: 5000000, Tolerance: 1000,
				Ageing: x(1000, 1000), Dirt: x(0, 1000), Life: 200000, Dim: 1000, Restrike: 3600,
			}
		},
	} {
		c := large()
		change(&c)
		if part, at, e := Check(c); part != 0 || at != 0 || e != api.OK {
			t.Errorf("Check(%v) = %d, %d, %d", c, part, at, e)
		}
	}
}

// many returns a catalogue of so many tables and lamps.
func many(tables, lamps int) api.LmCatalog {
	var c api.LmCatalog
	for i := range tables {
		t := wide()
		t.Name += strconv.Itoa(i)
		c.Tables = append(c.Tables, t)
	}
	for i := range lamps {
		l := head()
		l.Name += strconv.Itoa(i)
		c.Lamps = append(c.Lamps, l)
	}
	return c
}

// P2.1
func TestCheckLimits(t *testing.T) {
	if part, at, e := Check(many(10, 20)); part != 0 || at != 0 || e != api.OK {
		t.Errorf("a full catalogue: %d, %d, %d", part, at, e)
	}
	for _, c := range []api.LmCatalog{many(11, 0), many(1, 21), many(11, 21)} {
		if part, at, e := Check(c); part != 0 || at != 0 || e != api.ErrLong {
			t.Errorf("too much: %d, %d, %d", part, at, e)
		}
		c.Tables[0].Name = ""
		if part, at, e := Check(c); part != 0 || at != 0 || e != api.ErrLong {
			t.Errorf("too much, and no name: %d, %d, %d", part, at, e)
		}
	}
}
