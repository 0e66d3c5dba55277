package road

import (
	"math"
	"strings"
	"testing"

	"linkboy/api"
)

// change changes one thing of a scene.
type change func(s *api.RdScene)

// changed returns the example with changes.
func changed(changes ...change) api.RdScene {
	s := example()
	for _, c := range changes {
		c(&s)
	}
	return s
}

// fullScene returns a scene at all of its limits.
func fullScene() api.RdScene {
	const most = api.MaxRdPlace
	var s api.RdScene
	for i := range api.MaxRdRoads {
		points := [][2]int{{-most, most}, {most, most}, {-most, -most}, {most, -most}, {0, i}, {0, 0}, {0, 1}, {most, 0}}
		s.Roads = append(s.Roads, api.RdRoad{Name: strings.Repeat("r", api.MaxName-1) + string(rune('a'+i)), Kind: i % 3, Points: points, Width: api.MaxRdWidth})
		if i == 0 {
			s.Roads[0].Points = [][2]int{{0, 0}, {1, 0}}
			s.Roads[0].Kind, s.Roads[0].Width = api.RdCrossing, api.MinRdWidth
		}
	}
	for range api.MaxRdTrees {
		s.Trees = append(s.Trees, api.RdTree{X: -most, Y: most, R: api.MaxRdCrown, Low: 0, High: api.MaxRdTall})
	}
	s.Trees[0] = api.RdTree{X: most, Y: -most, R: 1, Low: api.MaxRdTall - 1, High: api.MaxRdTall}
	for range api.MaxRdFronts {
		f := api.RdFront{A: [2]int{-most, -most}, B: [2]int{most, most}}
		for range api.MaxRdWindows {
			f.Windows = append(f.Windows, api.RdWindow{From: 0, To: api.All, Low: 0, High: api.MaxRdTall})
		}
		s.Fronts = append(s.Fronts, f)
	}
	s.Fronts[0].Windows[0] = api.RdWindow{From: api.All - 1, To: api.All, Low: api.MaxRdTall - 1, High: api.MaxRdTall}
	for i := range api.MaxRdColumns {
		s.Columns = append(s.Columns, api.RdColumn{Name: "c-" + string(rune('a'+i)), X: most, Y: -most, Height: api.MaxRdHeight, DX: api.MaxRdHeading, DY: -api.MaxRdHeading})
	}
	s.Columns[0].Height, s.Columns[0].DX, s.Columns[0].DY = 1, 0, 1
	return s
}

// P3.1
func TestCheckAccepts(t *testing.T) {
	for i, s := range []api.RdScene{{}, {Roads: []api.RdRoad{}, Trees: []api.RdTree{}, Fronts: []api.RdFront{}, Columns: []api.RdColumn{}}, example(), fullScene(),
		changed(func(s *api.RdScene) { s.Fronts[0].Windows = nil }),
		changed(func(s *api.RdScene) { s.Fronts[0].Windows = []api.RdWindow{} }),
		changed(func(s *api.RdScene) { s.Columns[0].Name = s.Roads[0].Name }),
		changed(func(s *api.RdScene) { s.Columns[0].DX, s.Columns[0].DY = -1000, 0 }),
		changed(func(s *api.RdScene) { s.Roads[0].Points[2] = s.Roads[0].Points[0] }),
		changed(func(s *api.RdScene) { s.Roads[0].Name = "a" }),
		changed(func(s *api.RdScene) { s.Roads[0].Name = "a0-" }),
	} {
		if part, at, e := Check(s); part != 0 || at != 0 || e != api.OK {
			t.Errorf("scene %d: %d, %d, %d", i, part, at, e)
		}
	}
}

// oneTooMany returns the full scene with one element more in one of its lists, and with errors in all lists.
func oneTooMany(more change) api.RdScene {
	s := fullScene()
	s.Roads[0].Name, s.Trees[0].R, s.Fronts[0].A[0], s.Columns[0].Name = "", 0, math.MaxInt, ""
	more(&s)
	return s
}

// P3.1
func TestCheckCountsFirst(t *testing.T) {
	for i, more := range []change{
		func(s *api.RdScene) { s.Roads = append(s.Roads, s.Roads[0]) },
		func(s *api.RdScene) { s.Trees = append(s.Trees, s.Trees[0]) },
		func(s *api.RdScene) { s.Fronts = append(s.Fronts, s.Fronts[0]) },
		func(s *api.RdScene) { s.Columns = append(s.Columns, s.Columns[0]) },
		func(s *api.RdScene) { s.Columns = make([]api.RdColumn, 100000) },
	} {
		if part, at, e := Check(oneTooMany(more)); part != 0 || at != 0 || e != api.ErrLong {
			t.Errorf("list %d: %d, %d, %d", i, part, at, e)
		}
	}
}

// P3.1: of the errors of a road the first one; each is found also where it is alone.
func TestCheckRoads(t *testing.T) {
	name := func(name string) change { return func(s *api.RdScene) { s.Roads[1].Name = name } }
	kind := func(kind int) change { return func(s *api.RdScene) { s.Roads[1].Kind = kind } }
	width := func(width int) change { return func(s *api.RdScene) { s.Roads[1].Width = width } }
	points := func(points ...[2]int) change { return func(s *api.RdScene) { s.Roads[1].Points = points } }
	foot := kind(api.RdFoot)
	const beyond = api.MaxRdPlace + 1
	nine := points(make([][2]int, 9)...)
	for i, c := range []struct {
		changes []change
		e       api.Errno
	}{
		{[]change{name("")}, api.ErrForm}, {[]change{name("Zebra")}, api.ErrForm}, {[]change{name("1")}, api.ErrForm}, {[]change{name("-")}, api.ErrForm}, {[]change{name("a_b")}, api.ErrForm}, {[]change{name(strings.Repeat("a", 25))}, api.ErrForm},
		{[]change{name("high")}, api.ErrTwice}, {[]change{name("high"), kind(4)}, api.ErrTwice},
		{[]change{kind(4)}, api.ErrArg}, {[]change{kind(-1)}, api.ErrArg}, {[]change{kind(math.MaxInt)}, api.ErrArg}, {[]change{kind(4), points()}, api.ErrArg},
		{[]change{points()}, api.ErrNone}, {[]change{points([2]int{0, 0})}, api.ErrNone}, {[]change{points([2]int{beyond, 0}), width(0)}, api.ErrNone},
		{[]change{nine}, api.ErrLong}, {[]change{nine, width(0)}, api.ErrLong},
		{[]change{points([2]int{0, 0}, [2]int{beyond, 0})}, api.ErrRange}, {[]change{points([2]int{0, 0}, [2]int{0, beyond})}, api.ErrRange}, {[]change{points([2]int{-beyond, 0}, [2]int{0, 0})}, api.ErrRange}, {[]change{points([2]int{0, -beyond}, [2]int{0, 0})}, api.ErrRange}, {[]change{points([2]int{math.MinInt, math.MaxInt}, [2]int{0, 0})}, api.ErrRange},
		{[]change{width(99)}, api.ErrRange}, {[]change{width(30001)}, api.ErrRange}, {[]change{width(-100)}, api.ErrRange}, {[]change{width(math.MinInt)}, api.ErrRange},
		{[]change{width(0), points([2]int{0, 0}, [2]int{0, 0})}, api.ErrRange}, {[]change{width(0), points([2]int{0, 0}, [2]int{0, 1}, [2]int{0, 2})}, api.ErrRange},
		{[]change{points([2]int{0, 0}, [2]int{0, 0})}, api.ErrArg}, {[]change{foot, points([2]int{0, 0}, [2]int{0, 1}, [2]int{0, 1})}, api.ErrArg}, {[]change{points([2]int{0, 0}, [2]int{0, 1}, [2]int{0, 2})}, api.ErrArg},
		{[]change{foot, points([2]int{0, 0}, [2]int{0, 1}, [2]int{0, 2})}, api.OK},
	} {
		want := [3]int{1, 1, int(c.e)}
		if c.e == api.OK {
			want = [3]int{}
		}
		part, at, e := Check(changed(c.changes...))
		if got := [3]int{part, at, int(e)}; got != want {
			t.Errorf("%d: %v, want %v", i, got, want)
		}
	}
}

// P3.1
func TestCheckTrees(t *testing.T) {
	const beyond = api.MaxRdPlace + 1
	for _, tree := range []api.RdTree{
		{X: beyond, Y: 0, R: 1, Low: 0, High: 1}, {X: -beyond, Y: 0, R: 1, Low: 0, High: 1}, {X: 0, Y: beyond, R: 1, Low: 0, High: 1}, {X: 0, Y: -beyond, R: 1, Low: 0, High: 1},
		{R: 0, Low: 0, High: 1}, {R: -1, Low: 0, High: 1}, {R: 20001, Low: 0, High: 1}, {R: math.MaxInt, Low: 0, High: 1}, {R: 1, Low: -1, High: 1}, {R: 1, Low: 1, High: 1}, {R: 1, Low: 2, High: 1}, {R: 1, Low: 0, High: 1001}, {R: 1, Low: math.MinInt, High: math.MaxInt}, {R: 1, Low: math.MaxInt, High: math.MinInt}, {},
	} {
		s := example()
		s.Trees = append(s.Trees, s.Trees[0], tree, tree)
		s.Fronts[0].A = s.Fronts[0].B
		if part, at, e := Check(s); part != 2 || at != 2 || e != api.ErrRange {
			t.Errorf("%v: %d, %d, %d", tree, part, at, e)
		}
	}
}

// P3.1
func TestCheckFronts(t *testing.T) {
	const beyond = api.MaxRdPlace + 1
	good := api.RdWindow{From: 0, To: 1, Low: 0, High: 1}
	seven := []api.RdWindow{{}, good, good, good, good, good, good}
	a, b := [2]int{0, 0}, [2]int{1, 0}
	for i, c := range []struct {
		f api.RdFront
		e api.Errno
	}{
		{api.RdFront{A: [2]int{beyond, 0}, B: b}, api.ErrRange}, {api.RdFront{A: [2]int{0, -beyond}, B: b}, api.ErrRange}, {api.RdFront{A: a, B: [2]int{-beyond, 0}}, api.ErrRange}, {api.RdFront{A: a, B: [2]int{0, beyond}}, api.ErrRange},
		{api.RdFront{A: [2]int{math.MinInt, 0}, B: [2]int{math.MinInt, 0}, Windows: seven}, api.ErrRange},
		{api.RdFront{A: a, B: a, Windows: seven}, api.ErrArg}, {api.RdFront{}, api.ErrArg},
		{api.RdFront{A: a, B: b, Windows: seven}, api.ErrLong},
		{api.RdFront{A: a, B: b, Windows: []api.RdWindow{good, {From: -1, To: 1, Low: 0, High: 1}}}, api.ErrRange},
		{api.RdFront{A: a, B: b, Windows: []api.RdWindow{good, {From: 1, To: 1, Low: 0, High: 1}}}, api.ErrRange},
		{api.RdFront{A: a, B: b, Windows: []api.RdWindow{good, {From: 2, To: 1, Low: 0, High: 1}}}, api.ErrRange},
		{api.RdFront{A: a, B: b, Windows: []api.RdWindow{good, {From: 0, To: 1001, Low: 0, High: 1}}}, api.ErrRange},
		{api.RdFront{A: a, B: b, Windows: []api.RdWindow{good, {From: 0, To: 1, Low: -1, High: 1}}}, api.ErrRange},
		{api.RdFront{A: a, B: b, Windows: []api.RdWindow{good, {From: 0, To: 1, Low: 1, High: 1}}}, api.ErrRange},
		{api.RdFront{A: a, B: b, Windows: []api.RdWindow{{From: 0, To: 1, Low: 0, High: 1001}, good}}, api.ErrRange},
		{api.RdFront{A: a, B: b, Windows: []api.RdWindow{{From: math.MinInt, To: math.MaxInt, Low: math.MinInt, High: math.MaxInt}}}, api.ErrRange},
	} {
		s := example()
		s.Fronts = append(s.Fronts, c.f, api.RdFront{A: [2]int{beyond, 0}})
		s.Columns[0].Name = ""
		if part, at, e := Check(s); part != 3 || at != 1 || e != c.e {
			t.Errorf("%d: %d, %d, %d, want %d", i, part, at, e, c.e)
		}
	}
}

// P3.1
func TestCheckColumns(t *testing.T) {
	const beyond = api.MaxRdPlace + 1
	for _, c := range []struct {
		c api.RdColumn
		e api.Errno
	}{
		{api.RdColumn{}, api.ErrForm}, {api.RdColumn{Name: "C", Height: 1, DX: 1}, api.ErrForm}, {api.RdColumn{Name: strings.Repeat("c", 25), Height: 1, DX: 1}, api.ErrForm},
		{api.RdColumn{Name: "c1"}, api.ErrTwice}, {api.RdColumn{Name: "c1", Height: 1, DX: 1}, api.ErrTwice},
		{api.RdColumn{Name: "c2"}, api.ErrRange}, {api.RdColumn{Name: "c2", Height: 201, DX: 1}, api.ErrRange}, {api.RdColumn{Name: "c2", Height: math.MinInt, DX: 1}, api.ErrRange},
		{api.RdColumn{Name: "c2", Height: 1, DX: 1, X: beyond}, api.ErrRange}, {api.RdColumn{Name: "c2", Height: 1, DX: 1, X: -beyond}, api.ErrRange}, {api.RdColumn{Name: "c2", Height: 1, DX: 1, Y: beyond}, api.ErrRange}, {api.RdColumn{Name: "c2", Height: 1, Y: -beyond}, api.ErrRange},
		{api.RdColumn{Name: "c2", Height: 1, DX: 1001}, api.ErrRange}, {api.RdColumn{Name: "c2", Height: 1, DX: -1001}, api.ErrRange}, {api.RdColumn{Name: "c2", Height: 1, DY: 1001}, api.ErrRange}, {api.RdColumn{Name: "c2", Height: 1, DY: -1001}, api.ErrRange}, {api.RdColumn{Name: "c2", Height: 1, DX: math.MinInt, DY: math.MaxInt}, api.ErrRange},
		{api.RdColumn{Name: "c2", Height: 1}, api.ErrArg},
	} {
		s := example()
		s.Columns = append(s.Columns, c.c, api.RdColumn{})
		if part, at, e := Check(s); part != 4 || at != 1 || e != c.e {
			t.Errorf("%v: %d, %d, %d, want %d", c.c, part, at, e, c.e)
		}
	}
}

// P3.1: all of one part comes before the next part, and the first element with an error before the others, whatever its error is.
func TestCheckTakesTheFirst(t *testing.T) {
	road := func(s *api.RdScene) { s.Roads[1].Points[1] = s.Roads[1].Points[0] }
	tree := func(s *api.RdScene) { s.Trees[0].R = 0 }
	front := func(s *api.RdScene) { s.Fronts[0].Windows[0].From = -1 }
	column := func(s *api.RdScene) { s.Columns[0].Name = "" }
	for i, c := range []struct {
		s        api.RdScene
		part, at int
		e        api.Errno
	}{
		{changed(column, front, tree, road), 1, 1, api.ErrArg}, {changed(column, front, tree), 2, 0, api.ErrRange}, {changed(column, front), 3, 0, api.ErrRange}, {changed(column), 4, 0, api.ErrForm},
		{changed(road, func(s *api.RdScene) { s.Roads[0].Points[1] = s.Roads[0].Points[0] }), 1, 0, api.ErrArg},
		{changed(func(s *api.RdScene) { s.Roads[0].Width = 0; s.Roads[1].Name = "" }), 1, 0, api.ErrRange},
		{changed(func(s *api.RdScene) { s.Roads[0].Name = ""; s.Roads[1].Name = "" }), 1, 0, api.ErrForm},
	} {
		if part, at, e := Check(c.s); part != c.part || at != c.at || e != c.e {
			t.Errorf("%d: %d, %d, %d", i, part, at, e)
		}
	}
}
