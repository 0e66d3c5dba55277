package road

import (
	"math"
	"testing"

	"linkboy/api"
)

// P3.6
func TestFaces(t *testing.T) {
	for _, c := range []struct {
		a, b [2]int
		x, y int
		want bool
	}{
		{[2]int{10000, 5000}, [2]int{0, 5000}, 4000, 4000, true},
		{[2]int{0, 5000}, [2]int{10000, 5000}, 4000, 4000, false},
		{[2]int{10000, 5000}, [2]int{0, 5000}, 4000, 5000, false}, // on the front
		{[2]int{10000, 5000}, [2]int{0, 5000}, 14000, 5000, false},
		{[2]int{10000, 5000}, [2]int{0, 5000}, 14000, 4999, true}, // beside it
		{[2]int{0, 0}, [2]int{1, 2}, 0, 1, true},
		{[2]int{0, 0}, [2]int{1, 2}, 0, -1, false},
		{[2]int{0, 0}, [2]int{1, 2}, 50000, 100000, false},
		{[2]int{0, 0}, [2]int{1, 2}, 49999, 100000, true},
		{[2]int{0, 0}, [2]int{1, 2}, 50001, 100000, false},
		{[2]int{-100000, -100000}, [2]int{100000, 100000}, -100000, 100000, true},
		{[2]int{-100000, -100000}, [2]int{100000, 100000}, 100000, -100000, false},
		{[2]int{100000, 100000}, [2]int{-100000, -100000}, 100000, 99999, true},
	} {
		s := example()
		s.Fronts[0].A, s.Fronts[0].B = c.a, c.b
		s.Columns[0].X, s.Columns[0].Y = c.x, c.y
		if got, e := Faces(s, 0, 0); got != c.want || e != api.OK {
			t.Errorf("Faces(%v) = %v, %d", c, got, e)
		}
	}
}

// P3.6
func TestWindow(t *testing.T) {
	for _, c := range []struct {
		a, b [2]int
		w    api.RdWindow
		want api.RdBox
	}{
		{[2]int{10000, 5000}, [2]int{0, 5000}, api.RdWindow{From: 250, To: 750, Low: 10, High: 30}, api.RdBox{X0: 2500, Y0: 5000, X1: 7500, Y1: 5000, Low: 10, High: 30}},
		{[2]int{0, 0}, [2]int{1, -1}, api.RdWindow{From: 1, To: 999, Low: 0, High: 1}, api.RdBox{X0: 0, Y0: -1, X1: 1, Y1: 0, Low: 0, High: 1}},
		{[2]int{0, 0}, [2]int{100, -300}, api.RdWindow{From: 333, To: 667, Low: 0, High: 1000}, api.RdBox{X0: 33, Y0: -201, X1: 67, Y1: -99, Low: 0, High: 1000}},
		{[2]int{-7, 3}, [2]int{-8, 3}, api.RdWindow{From: 0, To: 1, Low: 3, High: 4}, api.RdBox{X0: -8, Y0: 3, X1: -7, Y1: 3, Low: 3, High: 4}},
		{[2]int{-100000, 100000}, [2]int{100000, -100000}, api.RdWindow{From: 0, To: 1000, Low: 3, High: 4}, api.RdBox{X0: -100000, Y0: -100000, X1: 100000, Y1: 100000, Low: 3, High: 4}},
	} {
		s := example()
		s.Fronts[0] = api.RdFront{A: c.a, B: c.b, Windows: []api.RdWindow{{From: 0, To: 1, Low: 0, High: 1}, c.w}}
		if got, e := Window(s, 0, 1); got != c.want || e != api.OK {
			t.Errorf("Window(%v) = %v, %d", c, got, e)
		}
	}
}

// P3.6: the errors in their order.
func TestErrorsOfFacesAndWindow(t *testing.T) {
	s := example()
	for _, c := range []struct {
		s         api.RdScene
		at, front int
		e         api.Errno
	}{
		{wrong(), 1, 1, api.ErrForm}, {s, 1, 0, api.ErrNone}, {s, 0, 1, api.ErrNone}, {s, -1, 0, api.ErrNone}, {s, 0, -1, api.ErrNone}, {s, math.MaxInt, 0, api.ErrNone}, {s, 0, math.MinInt, api.ErrNone}, {api.RdScene{}, 0, 0, api.ErrNone},
		{api.RdScene{Fronts: s.Fronts}, 1, 0, api.ErrNone}, {api.RdScene{Columns: s.Columns}, 0, 0, api.ErrNone},
	} {
		if got, e := Faces(c.s, c.at, c.front); got || e != c.e {
			t.Errorf("Faces(%d, %d) = %v, %d, want %d", c.at, c.front, got, e, c.e)
		}
		if got, e := Window(c.s, c.front, c.at); got != (api.RdBox{}) || e != c.e {
			t.Errorf("Window(%d, %d) = %v, %d, want %d", c.front, c.at, got, e, c.e)
		}
	}
}
