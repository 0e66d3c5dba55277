package road

import (
	"math"
	"math/rand"
	"reflect"
	"testing"

	"linkboy/api"
)

// example returns the scene S of the document.
func example() api.RdScene {
	return api.RdScene{
		Roads: []api.RdRoad{
			{Name: "high", Kind: api.RdCarriage, Points: [][2]int{{0, 0}, {10000, 0}, {10000, 10000}}, Width: 4000},
			{Name: "zebra", Kind: api.RdCrossing, Points: [][2]int{{5000, -2000}, {5000, 2000}}, Width: 3000},
		},
		Trees:   []api.RdTree{{X: 4000, Y: 3000, R: 1000, Low: 20, High: 40}},
		Fronts:  []api.RdFront{{A: [2]int{10000, 5000}, B: [2]int{0, 5000}, Windows: []api.RdWindow{{From: 250, To: 750, Low: 10, High: 30}}}},
		Columns: []api.RdColumn{{Name: "c1", X: 4000, Y: 4000, Height: 60, DX: 0, DY: -1}},
	}
}

// wrong returns a scene that Check refuses with ErrForm.
func wrong() api.RdScene {
	s := example()
	s.Columns[0].Name = "C1"
	return s
}

// P3.2
func TestOn(t *testing.T) {
	for _, c := range []struct {
		road, x, y int
		want       bool
	}{
		{0, 5000, 2000, true}, {0, 5000, 2001, false}, {0, 12000, 0, true}, {0, 11500, -1500, false},
		{0, -2000, 0, true}, {0, -2001, 0, false}, {0, -1200, 1600, true}, {0, -1200, 1601, false}, {0, 11200, -1600, true}, {0, 11201, -1600, false},
		{0, 12000, 10000, true}, {0, 12000, 10001, false}, {0, 10000, 12000, true}, {0, 10000, 12001, false}, {0, 8000, 5000, true}, {0, 7999, 5000, false},
		{1, 6500, 0, true}, {1, 6501, 0, false}, {1, 5000, 3500, true}, {1, 5000, 3501, false}, {1, 3500, -2000, true}, {1, 3500, -2001, false},
	} {
		if got, e := On(example(), c.road, c.x, c.y); got != c.want || e != api.OK {
			t.Errorf("On(%d, %d, %d) = %v, %d", c.road, c.x, c.y, got, e)
		}
	}
}

// P3.2
func TestOnAnOddWidth(t *testing.T) {
	s := example()
	s.Roads[0].Width = 101
	s.Roads[0].Points = [][2]int{{0, 0}, {300, 400}}
	for _, c := range []struct {
		x, y int
		want bool
	}{
		{-50, 0, true}, {-51, 0, false}, {-30, -40, true}, {-31, -40, false}, {-31, -39, true},
		{150 - 40, 200 + 30, true}, {150 - 41, 200 + 30, false}, {150 - 40, 200 + 31, false}, {150 + 40, 200 - 30, true}, {150 + 41, 200 - 30, false},
	} {
		if got, e := On(s, 0, c.x, c.y); got != c.want || e != api.OK {
			t.Errorf("On(%d, %d) = %v, %d", c.x, c.y, got, e)
		}
	}
}

// P3.2
func TestMeets(t *testing.T) {
	for _, c := range []struct {
		road int
		p    api.RdPatch
		want int
	}{
		{0, api.RdPatch{X0: 0, Y0: 0, X1: 1000, Y1: 1000}, api.RdAll},
		{0, api.RdPatch{X0: 0, Y0: 1000, X1: 1000, Y1: 2001}, api.RdSome},
		{0, api.RdPatch{X0: 0, Y0: 3000, X1: 1000, Y1: 4000}, api.RdNone},
		{0, api.RdPatch{X0: 9000, Y0: 1000, X1: 11000, Y1: 3000}, api.RdAll},
		{0, api.RdPatch{X0: 8500, Y0: -1500, X1: 11500, Y1: 1500}, api.RdSome},
		{0, api.RdPatch{X0: 0, Y0: 2000, X1: 1000, Y1: 4000}, api.RdSome}, // a side on the edge
		{0, api.RdPatch{X0: 0, Y0: 2001, X1: 1000, Y1: 4000}, api.RdNone},
		{0, api.RdPatch{X0: -3000, Y0: 1600, X1: -1200, Y1: 3000}, api.RdSome}, // a corner on it
		{0, api.RdPatch{X0: -3000, Y0: 1600, X1: -1201, Y1: 3000}, api.RdNone},
		{0, api.RdPatch{X0: -100000, Y0: -100000, X1: 100000, Y1: 100000}, api.RdSome}, // around all of it
		{0, api.RdPatch{X0: 4000, Y0: -9000, X1: 4001, Y1: 9000}, api.RdSome},          // across it
		{0, api.RdPatch{X0: 12000, Y0: 0, X1: 12000, Y1: 0}, api.RdAll},                // points
		{0, api.RdPatch{X0: 12000, Y0: -1, X1: 12000, Y1: -1}, api.RdNone},
		{0, api.RdPatch{X0: 4000, Y0: -9000, X1: 4000, Y1: 9000}, api.RdSome}, // lines
		{0, api.RdPatch{X0: 4000, Y0: -2000, X1: 4000, Y1: 2000}, api.RdAll},
		{0, api.RdPatch{X0: 8000, Y0: 5000, X1: 12000, Y1: 5000}, api.RdAll},
		{0, api.RdPatch{X0: 7999, Y0: 5000, X1: 12000, Y1: 5000}, api.RdSome},
		{1, api.RdPatch{X0: 3500, Y0: -2000, X1: 6500, Y1: 2000}, api.RdAll},
		{1, api.RdPatch{X0: 3500, Y0: -2000, X1: 6500, Y1: 2001}, api.RdSome},
	} {
		if got, e := Meets(example(), c.road, c.p); got != c.want || e != api.OK {
			t.Errorf("Meets(%d, %v) = %d, %d", c.road, c.p, got, e)
		}
	}
}

// P3.2
func TestMeetsIsAsTheLeastDistanceSays(t *testing.T) {
	r := rand.New(rand.NewSource(32))
	var count [3]int
	edges := 0
	for range 5000 {
		size := []int{200, 2000, 100000}[r.Intn(3)]
		s := randomScene(r, size)
		if len(s.Roads) == 0 {
			continue
		}
		road := r.Intn(len(s.Roads))
		p := randomPatch(r, size)
		want := api.RdNone
		half := square(s.Roads[road].Width, 2)
		for i, b := range s.Roads[road].Points[1:] {
			piece := strips(s.Roads[road].Points[i], b, p)
			if piece.leastSquare().Cmp(half) == 0 {
				edges++
			}
			if piece.leastSquare().Cmp(half) <= 0 {
				want = max(want, api.RdSome)
			}
			if piece.greatestSquare().Cmp(half) <= 0 {
				want = api.RdAll
			}
		}
		count[want]++
		if got, e := Meets(s, road, p); got != want || e != api.OK {
			t.Fatalf("Meets(%v, %v) = %d, %d, want %d", s.Roads[road], p, got, e, want)
		}
		on := want == api.RdAll
		if p.X0 != p.X1 || p.Y0 != p.Y1 {
			continue
		}
		if got, e := On(s, road, p.X0, p.Y0); got != on || e != api.OK {
			t.Fatalf("On(%v, %v) = %v, %d", s.Roads[road], p, got, e)
		}
	}
	if min(count[0], count[1], count[2]) < 300 || edges < 40 {
		t.Errorf("%v results, %d on an edge", count, edges)
	}
}

// P3.2: the errors in their order.
func TestErrorsOfOnAndMeets(t *testing.T) {
	const beyond = api.MaxRdPlace + 1
	s := example()
	for _, c := range []struct {
		s          api.RdScene
		road, x, y int
		e          api.Errno
	}{
		{wrong(), 2, beyond, 0, api.ErrForm}, {s, 2, beyond, 0, api.ErrNone}, {s, -1, beyond, 0, api.ErrNone}, {api.RdScene{}, 0, 0, 0, api.ErrNone}, {s, math.MinInt, 0, 0, api.ErrNone}, {s, math.MaxInt, 0, 0, api.ErrNone},
		{s, 0, beyond, 0, api.ErrRange}, {s, 0, 0, beyond, api.ErrRange}, {s, 0, -beyond, 0, api.ErrRange}, {s, 0, 0, -beyond, api.ErrRange}, {s, 0, math.MinInt, math.MaxInt, api.ErrRange},
		{s, 0, beyond - 1, 1 - beyond, api.OK}, {s, 1, 1 - beyond, beyond - 1, api.OK},
	} {
		if on, e := On(c.s, c.road, c.x, c.y); on || e != c.e {
			t.Errorf("On(%d, %d, %d) = %v, %d, want %d", c.road, c.x, c.y, on, e, c.e)
		}
		p := api.RdPatch{X0: c.x, Y0: c.y, X1: c.x, Y1: c.y}
		if meets, e := Meets(c.s, c.road, p); meets != 0 || e != c.e {
			t.Errorf("Meets(%d, %v) = %d, %d, want %d", c.road, p, meets, e, c.e)
		}
	}
	for _, p := range noPatches() {
		if meets, e := Meets(s, 0, p); meets != 0 || e != api.ErrRange {
			t.Errorf("Meets(%v) = %d, %d", p, meets, e)
		}
	}
}

// noPatches returns rectangles that are no patches, around the road of the example.
func noPatches() []api.RdPatch {
	const most = api.MaxRdPlace
	return []api.RdPatch{
		{X0: 1, Y0: 0, X1: 0, Y1: 0}, {X0: 0, Y0: 1, X1: 0, Y1: 0}, {X0: most, Y0: most, X1: -most, Y1: -most},
		{X0: -most - 1, Y0: 0, X1: 0, Y1: 0}, {X0: 0, Y0: -most - 1, X1: 0, Y1: 0}, {X0: 0, Y0: 0, X1: most + 1, Y1: 0}, {X0: 0, Y0: 0, X1: 0, Y1: most + 1},
		{X0: math.MinInt, Y0: math.MinInt, X1: math.MaxInt, Y1: math.MaxInt}, {X0: math.MaxInt, Y0: math.MaxInt, X1: math.MinInt, Y1: math.MinInt},
	}
}

// P3.3
func TestPatches(t *testing.T) {
	four := []api.RdPatch{{X0: 0, Y0: -4000, X1: 4000, Y1: 0}, {X0: 4000, Y0: -4000, X1: 8000, Y1: 0}, {X0: 0, Y0: 0, X1: 4000, Y1: 4000}, {X0: 4000, Y0: 0, X1: 8000, Y1: 4000}}
	if got, e := Patches(example(), 1, 4000); !reflect.DeepEqual(got, four) || e != api.OK {
		t.Errorf("Patches(1, 4000) = %v, %d", got, e)
	}
	s := example()
	s.Roads[0] = api.RdRoad{Name: "end", Points: [][2]int{{100000, 99000}, {100000, 100000}}, Width: 30000}
	want := []api.RdPatch{{X0: 0, Y0: 0, X1: 100000, Y1: 100000}, {X0: 100000, Y0: 0, X1: 200000, Y1: 100000}, {X0: 0, Y0: 100000, X1: 100000, Y1: 200000}, {X0: 100000, Y0: 100000, X1: 200000, Y1: 200000}}
	if got, e := Patches(s, 0, api.MaxRdPlace); !reflect.DeepEqual(got, want) || e != api.OK {
		t.Errorf("Patches at the end = %v, %d", got, e)
	}
	if _, e := Meets(s, 0, want[1]); e != api.ErrRange {
		t.Errorf("Meets of a square beyond the end: %d", e)
	}
}

// P3.3: a square that the road only touches is one of them, also if it is the last one that is looked at.
func TestPatchesThatTouch(t *testing.T) {
	s := example()
	s.Roads[0] = api.RdRoad{Name: "a", Points: [][2]int{{500, 500}, {1500, 500}}, Width: 1000}
	want := []api.RdPatch{{X0: 0, Y0: -1000, X1: 1000, Y1: 0}, {X0: 1000, Y0: -1000, X1: 2000, Y1: 0}, {X0: 0, Y0: 0, X1: 1000, Y1: 1000}, {X0: 1000, Y0: 0, X1: 2000, Y1: 1000}, {X0: 2000, Y0: 0, X1: 3000, Y1: 1000}, {X0: 0, Y0: 1000, X1: 1000, Y1: 2000}, {X0: 1000, Y0: 1000, X1: 2000, Y1: 2000}}
	want = append([]api.RdPatch{want[0], want[1], {X0: -1000, Y0: 0, X1: 0, Y1: 1000}}, want[2:]...)
	if got, e := Patches(s, 0, 1000); !reflect.DeepEqual(got, want) || e != api.OK {
		t.Errorf("Patches = %v, %d", got, e)
	}
}

// P3.3, against all squares around the road.
func TestPatchesAreAllSquaresOnTheRoad(t *testing.T) {
	r := rand.New(rand.NewSource(33))
	lists := 0
	for range 200 {
		size := []int{2000, 60000}[r.Intn(2)]
		s := randomScene(r, size)
		if len(s.Roads) == 0 {
			continue
		}
		road := r.Intn(len(s.Roads))
		step := size/20 + r.Intn(size)
		got, e := Patches(s, road, step)
		want, f := allPatches(s.Roads[road], step)
		if e != f || !reflect.DeepEqual(got, want) {
			t.Fatalf("Patches(%v, %d) = %v, %d, want %v, %d", s.Roads[road], step, got, e, want, f)
		}
		if len(got) > 1 {
			lists++
		}
	}
	if lists < 50 {
		t.Errorf("%d lists", lists)
	}
}

// allPatches returns what Patches returns, found without its tests.
func allPatches(r api.RdRoad, step int) ([]api.RdPatch, api.Errno) {
	down := func(a int) int { return int(math.Floor(float64(a) / float64(step))) }
	x0, y0, x1, y1 := math.MaxInt, math.MaxInt, math.MinInt, math.MinInt
	for _, p := range r.Points {
		x0, y0 = min(x0, down(p[0]-r.Width)), min(y0, down(p[1]-r.Width))
		x1, y1 = max(x1, down(p[0]+r.Width)), max(y1, down(p[1]+r.Width))
	}
	if (x1-x0+1)*(y1-y0+1) > 4000 {
		return nil, api.ErrLong
	}
	var all []api.RdPatch
	for j := y0; j <= y1; j++ {
		for i := x0; i <= x1; i++ {
			p := api.RdPatch{X0: i * step, Y0: j * step, X1: i*step + step, Y1: j*step + step}
			if isOnRoad(r, p) {
				all = append(all, p)
			}
		}
	}
	if len(all) > 400 {
		return nil, api.ErrLong
	}
	return all, api.OK
}

// isOnRoad reports whether a patch has a point on a road.
func isOnRoad(r api.RdRoad, p api.RdPatch) bool {
	for i, b := range r.Points[1:] {
		if strips(r.Points[i], b, p).leastSquare().Cmp(square(r.Width, 2)) <= 0 {
			return true
		}
	}
	return false
}

// P3.3: the limits of the squares that are looked at, and of those that have a point on the road.
func TestLimitsOfPatches(t *testing.T) {
	for _, c := range []struct {
		a, b  [2]int
		step  int
		count int
		e     api.Errno
	}{
		{[2]int{50, 70}, [2]int{19850, 70}, 100, 400, api.OK}, // two rows, and one more square at each end
		{[2]int{50, 70}, [2]int{19865, 70}, 100, 0, api.ErrLong},
		{[2]int{0, 0}, [2]int{78000, 48899}, 1000, 139, api.OK}, // 80 by 50 are looked at
		{[2]int{0, 0}, [2]int{78000, 48900}, 1000, 0, api.ErrLong},
		{[2]int{0, 0}, [2]int{78900, 48000}, 1000, 0, api.ErrLong},
		{[2]int{-100000, -100000}, [2]int{100000, 100000}, 100, 0, api.ErrLong},
	} {
		s := api.RdScene{Roads: []api.RdRoad{{Name: "a", Points: [][2]int{c.a, c.b}, Width: 100}}}
		got, e := Patches(s, 0, c.step)
		if len(got) != c.count || e != c.e {
			t.Errorf("from %v to %v, step %d: %d, %d", c.a, c.b, c.step, len(got), e)
		}
	}
}

// P3.3: the errors in their order.
func TestErrorsOfPatches(t *testing.T) {
	s := example()
	s.Roads[0].Points = [][2]int{{-100000, -100000}, {100000, 100000}}
	for _, c := range []struct {
		s          api.RdScene
		road, step int
		e          api.Errno
	}{
		{wrong(), 2, 0, api.ErrForm}, {s, 2, 0, api.ErrNone}, {s, -1, 0, api.ErrNone}, {api.RdScene{}, 0, 100, api.ErrNone}, {s, math.MinInt, 1000, api.ErrNone}, {s, math.MaxInt, 1000, api.ErrNone},
		{s, 0, 99, api.ErrRange}, {s, 0, 0, api.ErrRange}, {s, 0, -1, api.ErrRange}, {s, 0, 100001, api.ErrRange}, {s, 0, math.MinInt, api.ErrRange}, {s, 0, math.MaxInt, api.ErrRange},
		{s, 0, 100, api.ErrLong}, {s, 0, 100000, api.OK}, {s, 1, 100, api.ErrLong}, {s, 1, 500, api.OK},
	} {
		if got, e := Patches(c.s, c.road, c.step); (len(got) == 0) != (c.e != api.OK) || e != c.e {
			t.Errorf("Patches(%d, %d) = %v, %d, want %d", c.road, c.step, got, e, c.e)
		}
	}
}
