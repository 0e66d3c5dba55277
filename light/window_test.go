package light

import (
	"math"
	"testing"

	"linkboy/api"
)

// facade returns a scene with a front along y = 5000 from x = 2000 to -2000, and a lamp at (0, 0), of this height in dm, that points to it.
func facade(height int, windows ...api.RdWindow) api.LtScene {
	s := example()
	s.Road.Columns[0].Height = height
	s.Road.Fronts = []api.RdFront{{A: [2]int{2000, 5000}, B: [2]int{-2000, 5000}, Windows: windows}}
	return s
}

// P4.6: the intensities are 8 times those of the table: Side is 400, Sky 40, and the greatest value 4800.
func TestWindow(t *testing.T) {
	all := func(low, high int) api.RdWindow { return api.RdWindow{To: 1000, Low: low, High: high} }
	for _, c := range []struct {
		height int
		w      api.RdWindow
		want   int
	}{
		// Below the lamp, from 5000 to 6000 deep: seen from 8/10 to 10/10 along, and 4/10 across to each side.
		{80, all(20, 30), 96}, // 4800 mcd at 7071 mm
		// From 2000 to 4000 deep, which is 5/4 to 5/2: beyond the table.
		{50, all(10, 30), 14},  // 400 mcd at 5385 mm: 13.8
		{50, all(49, 50), 192}, // beside the lamp: 4800 mcd at 5000 mm
		{50, all(40, 60), 192},
		{50, all(50, 51), 2},   // above it: 40 mcd at 5000 mm is 1.6
		{50, all(100, 200), 1}, // 40 mcd at 7071 mm is 0.8
		{50, all(950, 1000), 1},
	} {
		if got, e := Window(facade(c.height, c.w), 0, 0); got != c.want || e != api.OK {
			t.Errorf("Window(%v) for a lamp at %d = %d, %d, want %d", c.w, c.height, got, e, c.want)
		}
	}
}

// P4.6
func TestWindowOfADarkLamp(t *testing.T) {
	for _, low := range []int{20, 79, 90} {
		s := facade(80, api.RdWindow{To: 1000, Low: low, High: low + 5})
		table := &s.Catalog.Tables[0]
		table.Values, table.Side, table.Sky = [][]int{{0, 0}, {0, 0}, {0, 0}}, 0, 0
		if got, e := Window(s, 0, 0); got != 0 || e != api.OK {
			t.Errorf("Window from %d on = %d, %d", low, got, e)
		}
	}
}

// P4.6: a lamp in the box of a window, but not on it, is taken to be 1 mm away at its own height.
func TestWindowAtTheLamp(t *testing.T) {
	for _, c := range []struct{ low, high, want int }{{79, 80, 4800e6}, {0, 1000, 4800e6}, {80, 81, 40e6}, {81, 82, 4000}, {0, 79, 323200}, {0, 78, 80400}} {
		s := facade(80, api.RdWindow{To: 1000, Low: c.low, High: c.high})
		s.Road.Fronts[0].A, s.Road.Fronts[0].B = [2]int{1, 1}, [2]int{-1, -1}
		s.Road.Columns[0].X, s.Road.Columns[0].Y = 1, -1
		if got, e := Window(s, 0, 0); got != c.want || e != api.OK {
			t.Errorf("Window from %d to %d = %d, %d, want %d", c.low, c.high, got, e, c.want)
		}
	}
}

// P4.6: seen at a depth from 1000 to 2000, a window that is 1000 to 3000 away is 500 to 3000 away at 1000: only the directions there count.
func TestDirectionsToAWindow(t *testing.T) {
	table := api.LmTable{Name: "wide", Us: []int{-3001, -3000, -500, -499, 499, 500, 3000, 3001}, Vs: []int{-3001, -3000, -500, -499, 499, 500, 3000, 3001}}
	isThere := func(i, k int) bool {
		isBefore, isBehind := i == 5 || i == 6, i == 1 || i == 2
		return isBefore && (k == 5 || k == 6) || isBehind && (k == 1 || k == 2)
	}
	for i := range table.Us {
		row := make([]int, len(table.Vs))
		for k := range row {
			row[k] = 7000
			if isThere(i, k) {
				row[k] = 1000
			}
		}
		table.Values = append(table.Values, row)
	}
	for _, c := range []struct{ ax, ay, bx, by, dx, dy int }{
		{3000, 1000, 1000, 3000, 0, 1}, {3000, 1000, 1000, 3000, 0, -1}, {-3000, -1000, -1000, -3000, 0, -1}, {-3000, -1000, -1000, -3000, 0, 1}, {1000, -3000, 3000, -1000, 1, 0}, {-1000, 3000, -3000, 1000, 1, 0},
	} {
		s := example()
		s.Catalog.Tables[0] = table
		s.Catalog.Lamps[0].Lumens = 1000
		s.Road.Columns[0].Height, s.Road.Columns[0].DX, s.Road.Columns[0].DY = 30, c.dx, c.dy
		s.Road.Fronts = []api.RdFront{{A: [2]int{c.ax, c.ay}, B: [2]int{c.bx, c.by}, Windows: []api.RdWindow{{To: 1000, Low: 10, High: 20}}}}
		// 1000 mcd at a distance whose square is 3000000
		if got, e := Window(s, 0, 0); got != 334 || e != api.OK {
			t.Errorf("Window of %v, seen to (%d, %d) = %d, %d", s.Road.Fronts[0], c.dx, c.dy, got, e)
		}
	}
}

// P4.6, P4.13
func TestWindowsOfSeveralColumns(t *testing.T) {
	s := facade(80, api.RdWindow{To: 1000, Low: 20, High: 30})
	for _, c := range []api.RdColumn{{Name: "c2", X: 1, Height: 80, DY: 1}, {Name: "c3", Height: 80, DY: 1}, {Name: "c4", Y: 5000, Height: 80, DY: 1}, {Name: "c5", Y: 9000, Height: 80, DY: -1}} {
		s.Road.Columns, s.Uses = append(s.Road.Columns, c), append(s.Uses, api.LmUse{Level: 1000})
	}
	s.Lamps = []int{0, 0, -1, 0, 0} // one is dark, one is on the front, and one behind it
	if got, e := Window(s, 0, 0); got != 96+96 || e != api.OK {
		t.Errorf("Window = %d, %d", got, e)
	}
}

// P4.6
func TestErrorsOfWindow(t *testing.T) {
	s := facade(80, api.RdWindow{To: 1000, Low: 20, High: 30})
	for _, c := range []struct {
		s             api.LtScene
		front, window int
		e             api.Errno
	}{
		{wrong(), 1, 0, api.ErrTwice}, {s, 1, 0, api.ErrNone}, {s, -1, 0, api.ErrNone}, {s, 0, 1, api.ErrNone}, {s, 0, -1, api.ErrNone}, {s, math.MaxInt, math.MinInt, api.ErrNone}, {s, 0, math.MaxInt, api.ErrNone},
		{example(), 0, 0, api.ErrNone}, {facade(80), 0, 0, api.ErrNone},
	} {
		if got, e := Window(c.s, c.front, c.window); got != 0 || e != c.e {
			t.Errorf("Window(%d, %d) = %d, %d, want %d", c.front, c.window, got, e, c.e)
		}
	}
}
