package road

import (
	"math"
	"math/rand"
	"reflect"
	"slices"
	"testing"

	"linkboy/api"
)

// P3.4
func TestStanding(t *testing.T) {
	s := example()
	if got, e := Standing(s); len(got) != 0 || e != api.OK {
		t.Errorf("Standing = %v, %d", got, e)
	}
	s.Roads = append(s.Roads, api.RdRoad{Name: "path", Kind: api.RdFoot, Points: [][2]int{{0, 4000}, {9000, 4000}}, Width: 1000},
		api.RdRoad{Name: "track", Kind: api.RdCycle, Points: [][2]int{{0, -9000}, {9000, -9000}}, Width: 1000})
	s.Columns = nil
	for i, place := range [][2]int{{5000, 3500}, {5000, 2001}, {0, 0}, {2000, 4000}, {5000, -9500}, {5000, -9501}, {5000, 4000}, {10000, 12000}, {8000, 4000}} {
		s.Columns = append(s.Columns, api.RdColumn{Name: name("c", i), X: place[0], Y: place[1], Height: 50, DX: 1})
	}
	if got, e := Standing(s); !slices.Equal(got, []int{0, 1, 2, 4, 7, 8}) || e != api.OK {
		t.Errorf("Standing = %v, %d", got, e)
	}
	if got, e := Standing(wrong()); got != nil || e != api.ErrForm {
		t.Errorf("Standing of a wrong scene = %v, %d", got, e)
	}
	if got, e := Standing(api.RdScene{}); len(got) != 0 || e != api.OK {
		t.Errorf("Standing of nothing = %v, %d", got, e)
	}
}

// P3.4
func TestStandingIsOnAKindForVehicles(t *testing.T) {
	for kind, want := range [][]int{{0}, {}, {0}, {0}} {
		s := example()
		s.Roads = []api.RdRoad{{Name: "a", Kind: kind, Points: [][2]int{{0, 0}, {4000, 4000}}, Width: 100}}
		if got, e := Standing(s); !slices.Equal(got, want) || e != api.OK {
			t.Errorf("Standing on the kind %d = %v, %d", kind, got, e)
		}
	}
}

// P3.4
func TestJunctions(t *testing.T) {
	s := example()
	if got, e := Junctions(s); len(got) != 0 || e != api.OK {
		t.Errorf("Junctions = %v, %d", got, e)
	}
	s.Roads = []api.RdRoad{
		{Name: "a", Points: [][2]int{{5, 5}, {0, 0}, {7, 7}, {5, 5}, {0, 9}, {-3, 1}}, Width: 100},
		{Name: "b", Points: [][2]int{{5, -5}, {0, 9}, {5, -6}}, Width: 100},
		{Name: "c", Points: [][2]int{{3, 3}, {4, 4}, {3, 3}}, Width: 100},
		{Name: "d", Points: [][2]int{{5, -5}, {5, 5}, {-3, 1}, {5, 5}, {0, 9}}, Width: 100, Kind: api.RdFoot},
	}
	want := []api.RdJunction{{X: -3, Y: 1, Roads: []int{0, 3}}, {X: 0, Y: 9, Roads: []int{0, 1, 3}}, {X: 5, Y: -5, Roads: []int{1, 3}}, {X: 5, Y: 5, Roads: []int{0, 3}}}
	if got, e := Junctions(s); !reflect.DeepEqual(got, want) || e != api.OK {
		t.Errorf("Junctions = %v, %d", got, e)
	}
	if got, e := Junctions(wrong()); got != nil || e != api.ErrForm {
		t.Errorf("Junctions of a wrong scene = %v, %d", got, e)
	}
	if got, e := Junctions(api.RdScene{}); len(got) != 0 || e != api.OK {
		t.Errorf("Junctions of nothing = %v, %d", got, e)
	}
}

// P3.4, against the definition.
func TestJunctionsAreAllOfThem(t *testing.T) {
	r := rand.New(rand.NewSource(34))
	for range 500 {
		s := randomScene(r, 20)
		var want []api.RdJunction
		for x := -20; x <= 20; x++ {
			for y := -20; y <= 20; y++ {
				var roads []int
				for road := range s.Roads {
					if slices.Contains(s.Roads[road].Points, [2]int{x, y}) {
						roads = append(roads, road)
					}
				}
				if len(roads) >= 2 {
					want = append(want, api.RdJunction{X: x, Y: y, Roads: roads})
				}
			}
		}
		if got, e := Junctions(s); len(got) != len(want) || len(got) > 0 && !reflect.DeepEqual(got, want) || e != api.OK {
			t.Fatalf("Junctions(%v) = %v, %d, want %v", s.Roads, got, e, want)
		}
	}
}

// P3.4
func TestBends(t *testing.T) {
	s := example()
	for _, c := range []struct {
		points [][2]int
		want   []int
	}{
		{s.Roads[0].Points, []int{1}},
		{[][2]int{{0, 0}, {1, 1}}, nil},
		{[][2]int{{0, 0}, {10, 0}, {10, 10}, {11, 100}, {11, 0}, {0, 0}}, []int{1, 3, 4}},
		{[][2]int{{0, 0}, {10, 0}, {11, 10}}, nil},
		{[][2]int{{0, 0}, {1, 0}, {2, 5}}, nil},
		{[][2]int{{0, 0}, {10, 0}, {10, 1}}, []int{1}},
		{[][2]int{{0, 0}, {10, 0}, {9, 100}}, []int{1}},
		{[][2]int{{0, 0}, {10, 0}, {20, 0}, {0, 0}}, []int{2}},
		{[][2]int{{-100000, -100000}, {100000, 100000}, {-100000, 99999}, {100000, -100000}, {99999, 100000}}, []int{1, 2, 3}},
		{[][2]int{{-100000, 100000}, {0, 0}, {100000, 99999}}, nil},
		{[][2]int{{-100000, 100000}, {0, 0}, {99999, 100000}}, []int{1}},
	} {
		s.Roads[0].Points = c.points
		if got, e := Bends(s, 0); !slices.Equal(got, c.want) || e != api.OK {
			t.Errorf("Bends(%v) = %v, %d", c.points, got, e)
		}
	}
	for _, c := range []struct {
		s    api.RdScene
		road int
		e    api.Errno
	}{{wrong(), 2, api.ErrForm}, {s, 2, api.ErrNone}, {s, -1, api.ErrNone}, {s, math.MinInt, api.ErrNone}, {s, math.MaxInt, api.ErrNone}, {api.RdScene{}, 0, api.ErrNone}} {
		if got, e := Bends(c.s, c.road); got != nil || e != c.e {
			t.Errorf("Bends(%d) = %v, %d, want %d", c.road, got, e, c.e)
		}
	}
}
