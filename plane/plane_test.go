package plane

import (
	"math"
	"slices"
	"testing"

	"linkboy/api"
)

func TestVectors(t *testing.T) {
	v, w := Of([2]int{3, -4}), Vector{5, 2}
	if v != (Vector{3, -4}) || v.Minus(w) != (Vector{-2, -6}) || v.Dot(w) != 7 || v.Cross(w) != 26 || w.Cross(v) != -26 {
		t.Errorf("%v, %v, %d, %d, %d", v, v.Minus(w), v.Dot(w), v.Cross(w), w.Cross(v))
	}
	if (Vector{1, 0}).Cross(Vector{0, 1}) <= 0 {
		t.Error("north is not to the left of east")
	}
}

func TestPatches(t *testing.T) {
	if p := PatchOf(Vector{7, 8}); p != (api.RdPatch{X0: 7, Y0: 8, X1: 7, Y1: 8}) {
		t.Errorf("PatchOf = %v", p)
	}
	if c := Corners(api.RdPatch{X0: 1, Y0: 2, X1: 3, Y1: 4}); c != [4]Vector{{1, 2}, {3, 2}, {3, 4}, {1, 4}} {
		t.Errorf("Corners = %v", c)
	}
	for _, c := range []struct {
		p    api.RdPatch
		want bool
	}{
		{api.RdPatch{X0: -100000, Y0: -100000, X1: 100000, Y1: 100000}, true}, {api.RdPatch{X0: 5, Y0: 6, X1: 5, Y1: 6}, true},
		{api.RdPatch{X0: 1}, false}, {api.RdPatch{Y0: 1}, false}, {api.RdPatch{X0: -100001}, false}, {api.RdPatch{Y0: -100001}, false}, {api.RdPatch{X1: 100001}, false}, {api.RdPatch{Y1: 100001}, false},
		{api.RdPatch{X0: math.MinInt, Y0: math.MinInt, X1: math.MaxInt, Y1: math.MaxInt}, false},
	} {
		if got := IsPatch(c.p); got != c.want {
			t.Errorf("IsPatch(%v) = %v", c.p, got)
		}
	}
}

func TestPlacesAndDirections(t *testing.T) {
	for _, c := range []struct {
		x, y             int
		place, direction bool
	}{
		{0, 0, true, false}, {1, 0, true, true}, {0, -1, true, true}, {1000, -1000, true, true}, {-1000, 1000, true, true}, {1001, 0, true, false}, {1, -1001, true, false},
		{100000, -100000, true, false}, {100001, 0, false, false}, {0, -100001, false, false}, {math.MinInt, 1, false, false}, {1, math.MaxInt, false, false},
	} {
		if got := ArePlaces([2]int{1, 1}, [2]int{c.x, c.y}); got != c.place {
			t.Errorf("ArePlaces(%d, %d) = %v", c.x, c.y, got)
		}
		if got := IsDirection(c.x, c.y); got != c.direction {
			t.Errorf("IsDirection(%d, %d) = %v", c.x, c.y, got)
		}
	}
	if !ArePlaces() {
		t.Error("a place of no list is not in its range")
	}
}

func TestCut(t *testing.T) {
	patches := []api.RdPatch{
		{X0: -100001, Y0: -100002, X1: -99999, Y1: -99998}, {X0: 1, Y0: 2, X1: 3, Y1: 4}, {X0: -100003, Y0: 0, X1: -100001, Y1: 5}, {X0: 100000, Y0: 99999, X1: 100001, Y1: 100002},
		{X0: 100001, Y0: 0, X1: 100002, Y1: 5}, {X0: 0, Y0: 100001, X1: 5, Y1: 100002}, {X0: 0, Y0: -100002, X1: 5, Y1: -100001},
	}
	argument := slices.Clone(patches)
	want := []api.RdPatch{{X0: -100000, Y0: -100000, X1: -99999, Y1: -99998}, {X0: 1, Y0: 2, X1: 3, Y1: 4}, {X0: 100000, Y0: 99999, X1: 100000, Y1: 100000}}
	if got := Cut(argument); !slices.Equal(got, want) || !slices.Equal(argument, patches) {
		t.Errorf("Cut = %v", got)
	}
	if got := Cut(nil); len(got) != 0 {
		t.Errorf("Cut of no patches = %v", got)
	}
}
