package feed

import (
	"math"
	"slices"
	"testing"

	"linkboy/api"
)

// example returns the feeder F of the document.
func example() api.FeFeeder {
	return api.FeFeeder{
		Cables: []api.FeCable{{Name: "copper", Core: api.Encl{Lo: 1000, Hi: 1200}, Earth: api.Encl{Lo: 1000, Hi: 1200}, Rated: 60000}},
		Fuses: []api.FeFuse{
			{Name: "ten", Rated: 10000, Points: []api.FePoint{{Current: 30000, Melt: api.Encl{Lo: 100, Hi: 400}}, {Current: 100000, Melt: api.Encl{Lo: 4, Hi: 8}}}},
			{Name: "forty", Rated: 40000, Points: []api.FePoint{{Current: 100000, Melt: api.Encl{Lo: 500, Hi: 3000}}, {Current: 400000, Melt: api.Encl{Lo: 10, Hi: 20}}}},
		},
		Nodes: []api.FeNode{
			{Name: "source", Parent: -1, Cable: -1, Fuse: -1},
			{Name: "a", Parent: 0, Length: 100, Fuse: 1},
			{Name: "b", Parent: 1, Length: 200, Fuse: 0, Loads: [3]api.Encl{{Lo: 2000, Hi: 3000}}},
			{Name: "c", Parent: 2, Length: 100, Fuse: -1, Loads: [3]api.Encl{1: {Lo: 1000, Hi: 1500}}},
		},
		Volts:  api.Encl{Lo: 220000, Hi: 240000},
		Source: api.Encl{Lo: 50000, Hi: 100000},
		Drop:   7000,
		Limit:  400,
	}
}

// wrong returns a feeder that Check refuses with ErrTwice.
func wrong() api.FeFeeder {
	f := example()
	f.Nodes[2].Name = "a"
	return f
}

// single returns a feeder that has nothing but a source.
func single() api.FeFeeder {
	f := example()
	return api.FeFeeder{Nodes: f.Nodes[:1], Volts: f.Volts, Source: f.Source, Limit: 1}
}

// P6.2: the examples.
func TestPath(t *testing.T) {
	for node, want := range [][]int{nil, {1}, {1, 2}, {1, 2, 3}} {
		if got, e := Path(example(), node); !slices.Equal(got, want) || e != api.OK {
			t.Errorf("Path(%d) = %v, %d, want %v", node, got, e, want)
		}
	}
}

// P6.2: the examples.
func TestCurrents(t *testing.T) {
	for node, want := range [][3]api.Encl{
		1: {{Lo: 2000, Hi: 3000}, {Lo: 1000, Hi: 1500}, {}},
		2: {{Lo: 2000, Hi: 3000}, {Lo: 1000, Hi: 1500}, {}},
		3: {1: {Lo: 1000, Hi: 1500}},
	} {
		if node == 0 {
			continue
		}
		if got, e := Currents(example(), node); got != want || e != api.OK {
			t.Errorf("Currents(%d) = %v, %d, want %v", node, got, e, want)
		}
	}
}

// P6.2: the examples, and other ones.
func TestNeutral(t *testing.T) {
	for node, want := range []int{1: 2646, 2: 2646, 3: 1500} {
		if node == 0 {
			continue
		}
		if got, e := Neutral(example(), node); got != want || e != api.OK {
			t.Errorf("Neutral(%d) = %d, %d, want %d", node, got, e, want)
		}
	}
	for _, c := range []struct {
		loads [3]api.Encl
		want  int
	}{
		{[3]api.Encl{}, 0},
		{[3]api.Encl{{Lo: 7, Hi: 7}, {Lo: 7, Hi: 7}, {Lo: 7, Hi: 7}}, 0},
		{[3]api.Encl{{Lo: 0, Hi: 7}, {Lo: 7, Hi: 7}, {Lo: 7, Hi: 7}}, 7},
		{[3]api.Encl{{Lo: 7, Hi: 7}, {Lo: 0, Hi: 7}, {Lo: 7, Hi: 7}}, 7},
		{[3]api.Encl{{Lo: 7, Hi: 7}, {Lo: 7, Hi: 7}, {Lo: 0, Hi: 7}}, 7},
		{[3]api.Encl{{Lo: 1, Hi: 1}, {Lo: 2, Hi: 2}, {Lo: 3, Hi: 3}}, 2}, // the square root of 3
		{[3]api.Encl{{Lo: 3, Hi: 3}, {Lo: 5, Hi: 8}, {}}, 7},
	} {
		f := example()
		f.Nodes[3].Loads = c.loads
		if got, e := Neutral(f, 3); got != c.want || e != api.OK {
			t.Errorf("Neutral with %v = %d, %d, want %d", c.loads, got, e, c.want)
		}
	}
}

// P6.3: the examples, and what is at the source.
func TestDrop(t *testing.T) {
	for _, c := range []struct{ node, phase, want int }{
		{2, 0, 2033}, {3, 1, 1853}, {0, 0, 0}, {0, 1, 0}, {0, 2, 0},
		{1, 0, 678}, {1, 1, 498}, {1, 2, 318}, // 677.52, 497.52, 317.52
		{3, 0, 2213}, // 2032.56 and 0.12 times 1500
	} {
		if got, e := Drop(example(), c.node, c.phase); got != c.want || e != api.OK {
			t.Errorf("Drop(%d, %d) = %d, %d, want %d", c.node, c.phase, got, e, c.want)
		}
	}
}

// P6.3: the sum is rounded, not each part of it.
func TestDropIsRoundedOnce(t *testing.T) {
	f := example()
	f.Cables[0].Core = api.Encl{Lo: 1, Hi: 1000}
	for i := range f.Nodes[1:] {
		f.Nodes[1+i].Length = 1
		f.Nodes[1+i].Loads = [3]api.Encl{}
	}
	for _, c := range []struct{ load, want int }{{0, 0}, {1, 1}, {166, 1}, {167, 2}, {500, 3}, {501, 4}} {
		f.Nodes[3].Loads[2].Hi = c.load // 6000 micro-ohms for a milli-ampere
		if got, e := Drop(f, 3, 2); got != c.want || e != api.OK {
			t.Errorf("Drop with %d = %d, %d, want %d", c.load, got, e, c.want)
		}
	}
}

// P6.3: the greatest drop there is.
func TestGreatestDrop(t *testing.T) {
	f := longest()
	sum := 0
	for n := range 40 {
		sum += n * api.MaxLoad
	}
	if got, e := Drop(f, 39, 0); got != 2*sum*5000 || e != api.OK {
		t.Errorf("Drop = %d, %d, want %d", got, e, 2*sum*5000)
	}
	if got, e := Neutral(f, 1); got != 39*api.MaxLoad || e != api.OK {
		t.Errorf("Neutral = %d, %d", got, e)
	}
}

// longest returns a feeder that has as much as there may be of all things.
func longest() api.FeFeeder {
	f := example()
	f.Cables[0] = api.FeCable{Name: "copper", Core: api.Encl{Lo: 1, Hi: api.MaxCore}, Earth: api.Encl{Lo: 1, Hi: api.MaxCore}, Rated: 1}
	f.Nodes = f.Nodes[:1]
	for i := range 39 {
		name := string([]byte{'n', '0' + byte(i/10), '0' + byte(i%10)})
		f.Nodes = append(f.Nodes, api.FeNode{Name: name, Parent: i, Length: api.MaxCable, Fuse: i % 2, Loads: [3]api.Encl{{Hi: api.MaxLoad}, {Hi: api.MaxLoad}, {Hi: api.MaxLoad}}})
	}
	f.Volts, f.Source = api.Encl{Lo: 1, Hi: api.MaxVolts}, api.Encl{Lo: 1, Hi: 1000000000}
	f.Drop, f.Limit = 0, 1
	return f
}

// P6.3: the examples, and the earth.
func TestFault(t *testing.T) {
	f := example()
	for _, c := range []struct {
		node int
		want api.Encl
	}{{3, api.Encl{Lo: 207547, Hi: 282353}}, {1, api.Encl{Lo: 647058, Hi: 960000}}} {
		for _, earth := range []bool{false, true} {
			if got, e := Fault(f, c.node, earth); got != c.want || e != api.OK {
				t.Errorf("Fault(%d, %v) = %v, %d, want %v", c.node, earth, got, e, c.want)
			}
		}
	}
	f.Cables[0].Earth = api.Encl{Lo: 500, Hi: 2000}
	if got, e := Fault(f, 1, true); got != (api.Encl{Lo: 523809, Hi: 1200000}) || e != api.OK {
		t.Errorf("Fault to the earth = %v, %d", got, e)
	}
	if got, e := Fault(f, 1, false); got != (api.Encl{Lo: 647058, Hi: 960000}) || e != api.OK {
		t.Errorf("Fault to the neutral = %v, %d", got, e)
	}
}

// P6.3: the greatest and the least current of a fault.
func TestGreatestFault(t *testing.T) {
	f := longest()
	f.Nodes[1].Length = 1
	if got, e := Fault(f, 1, true); got != (api.Encl{Lo: 0, Hi: 333333333334}) || e != api.OK {
		t.Errorf("Fault at 1 = %v, %d", got, e)
	}
	if got, e := Fault(f, 39, false); got != (api.Encl{Lo: 0, Hi: 2631559}) || e != api.OK { // 10^12 by 380003
		t.Errorf("Fault at 39 = %v, %d", got, e)
	}
}

// P6.4: the examples, and the currents around those of points.
func TestMelt(t *testing.T) {
	slow, fast := api.Encl{Lo: 100, Hi: 400}, api.Encl{Lo: 4, Hi: 8}
	for _, c := range []struct {
		fuse, current int
		t             api.Encl
		opens         bool
	}{
		{0, 0, api.Encl{}, false}, {0, 29999, api.Encl{}, false}, {0, 30000, slow, true}, {0, 99999, slow, true}, {0, 100000, fast, true}, {0, 207547, fast, true}, {0, 1000000000, fast, true},
		{1, 99999, api.Encl{}, false}, {1, 100000, api.Encl{Lo: 500, Hi: 3000}, true}, {1, 400000, api.Encl{Lo: 10, Hi: 20}, true},
	} {
		if got, opens, e := Melt(example(), c.fuse, c.current); got != c.t || opens != c.opens || e != api.OK {
			t.Errorf("Melt(%d, %d) = %v, %v, %d", c.fuse, c.current, got, opens, e)
		}
	}
}

// P6.4: the examples.
func TestOwn(t *testing.T) {
	for node, want := range []int{-1, 1, 2, 2} {
		if got, e := Own(example(), node); got != want || e != api.OK {
			t.Errorf("Own(%d) = %d, %d, want %d", node, got, e, want)
		}
	}
}

// P6.4: the examples, and the currents around which the answer changes.
func TestFirst(t *testing.T) {
	for _, c := range []struct{ node, current, want int }{
		{3, 207547, 2}, {1, 647058, 1}, {0, 647058, -1},
		{3, 0, -1}, {3, 29999, -1}, {3, 30000, 2}, // the other one does not open
		{3, 96999, 2}, {3, 97000, 2}, {3, 100000, 2}, // with 3000 more the other one opens, after 500 at least
		{3, 1000000000, 2}, {1, 99999, -1}, {1, 100000, 1},
	} {
		if got, e := First(example(), c.node, c.current); got != c.want || e != api.OK {
			t.Errorf("First(%d, %d) = %d, %d, want %d", c.node, c.current, got, e, c.want)
		}
	}
	f := example()
	f.Fuses[1].Points[1].Melt = api.Encl{Lo: 8, Hi: 20}
	for _, c := range []struct{ current, want int }{{396999, 2}, {397000, -1}} { // 8 is not below 8
		if got, e := First(f, 2, c.current); got != c.want || e != api.OK {
			t.Errorf("First(2, %d) = %d, %d, want %d", c.current, got, e, c.want)
		}
	}
	f.Fuses[0].Points[1].Melt = api.Encl{Lo: 50, Hi: 60}
	if got, e := First(f, 2, 400000); got != 1 || e != api.OK { // that which is not its own
		t.Errorf("First(2, 400000) = %d, %d", got, e)
	}
}

// P6.5: the examples.
func TestJudge(t *testing.T) {
	slow := func(node, other int) api.FeFault {
		return api.FeFault{Error: api.FeErrSlow, Node: node, Other: other}
	}
	for _, c := range []struct {
		limit int
		want  []api.FeFault
	}{
		{400, nil}, {20, nil}, {8, []api.FeFault{slow(1, 1), slow(1, 1)}},
		{7, []api.FeFault{slow(1, 1), slow(1, 1), slow(2, 2), slow(2, 2), slow(3, 2), slow(3, 2)}},
	} {
		f := example()
		f.Limit = c.limit
		if got, e := Judge(f); !slices.Equal(got, c.want) || e != api.OK {
			t.Errorf("Judge with the limit %d = %v, %d, want %v", c.limit, got, e, c.want)
		}
	}
	if got, e := Judge(single()); len(got) != 0 || e != api.OK {
		t.Errorf("Judge of a source = %v, %d", got, e)
	}
}

// P6.5: all kinds of faults, in their order.
func TestJudgeFindsEachFault(t *testing.T) {
	f := example()
	f.Cables[0].Rated = 3000
	f.Cables[0].Earth = api.Encl{Lo: 10000, Hi: 12000} // 35256 to 49639 mA to the earth at 2
	f.Fuses[0].Rated = 1499
	f.Fuses[1].Points = []api.FePoint{{Current: 500000, Melt: api.Encl{Lo: 8, Hi: 9}}}
	f.Nodes = append(f.Nodes, api.FeNode{Name: "d", Parent: 0, Length: 1, Fuse: -1, Loads: [3]api.Encl{2: {Hi: 3001}}})
	f.Drop, f.Limit = 497, 8
	want := []api.FeFault{
		{Error: api.FeErrDrop, Node: 1, Other: 0}, {Error: api.FeErrDrop, Node: 1, Other: 1},
		{Error: api.FeErrSlow, Node: 1, Other: 1}, {Error: api.FeErrSlow, Node: 1, Other: 1},
		{Error: api.FeErrLoad, Node: 2, Other: 0}, {Error: api.FeErrLoad, Node: 2, Other: 1},
		{Error: api.FeErrDrop, Node: 2, Other: 0}, {Error: api.FeErrDrop, Node: 2, Other: 1}, {Error: api.FeErrDrop, Node: 2, Other: 2},
		{Error: api.FeErrSlow, Node: 2, Other: 2},
		{Error: api.FeErrDrop, Node: 3, Other: 0}, {Error: api.FeErrDrop, Node: 3, Other: 1}, {Error: api.FeErrDrop, Node: 3, Other: 2},
		{Error: api.FeErrSlow, Node: 3, Other: 2},
		{Error: api.FeErrLoad, Node: 4, Other: 2}, {Error: api.FeErrBare, Node: 4, Other: -1},
	}
	if got, e := Judge(f); !slices.Equal(got, want) || e != api.OK {
		t.Errorf("Judge = %v, %d, want %v", got, e, want)
	}
	f.Fuses[1].Points[0].Current = 372231 // a fault to the neutral at 2 has 268292 to 369231 mA
	if got, e := Judge(f); !slices.Contains(got, api.FeFault{Error: api.FeErrOther, Node: 2, Other: 1}) || e != api.OK {
		t.Errorf("Judge = %v, %d", got, e)
	}
}

// P6.5: the currents from which another protection may open.
func TestJudgeTriesEachCurrent(t *testing.T) {
	f := example() // a fault at 2 has 268292 to 369231 mA, and 3000 more flow through 1
	f.Limit = 10
	other := []api.FeFault{{Error: api.FeErrOther, Node: 2, Other: 1}, {Error: api.FeErrOther, Node: 2, Other: 1}}
	for _, c := range []struct {
		own, next []api.FePoint // of the own protection of 2, and of the other one
		want      []api.FeFault
	}{
		{points(1, 8, 8), points(369232, 8, 99), other},
		{points(1, 8, 8), points(372231, 8, 99), other},
		{points(1, 8, 8), points(372232, 8, 99), nil},
		{points(1, 8, 8), points(1, 8, 99), other},
		{points(1, 8, 8), points(1, 9, 99), nil},
		{points(268292, 10, 10, 300000, 7, 8), points(302999, 9, 9), other}, // at 299999
		{points(268292, 10, 10, 300000, 7, 8), points(302999, 11, 11), nil},
		{points(268292, 10, 10, 300000, 7, 8), points(303000, 9, 9), nil},
	} {
		f.Fuses[0].Points, f.Fuses[1].Points = c.own, c.next
		got, e := Judge(f)
		got = slices.DeleteFunc(got, func(x api.FeFault) bool { return x.Node != 2 })
		if !slices.Equal(got, c.want) || e != api.OK {
			t.Errorf("Judge with %v, %v = %v, %d, want %v", c.own, c.next, got, e, c.want)
		}
	}
}

// points returns the points of a fuse, three numbers each.
func points(numbers ...int) (all []api.FePoint) {
	for n := range slices.Chunk(numbers, 3) {
		all = append(all, api.FePoint{Current: n[0], Melt: api.Encl{Lo: n[1], Hi: n[2]}})
	}
	return all
}

// P6.6: the example, and other ones.
func TestDark(t *testing.T) {
	for _, c := range []struct{ open, want []api.FeOpen }{
		{nil, nil},
		{[]api.FeOpen{{Node: 2}}, []api.FeOpen{{Node: 2}, {Node: 3}}},
		{[]api.FeOpen{{Node: 3, Phase: 2}}, []api.FeOpen{{Node: 3, Phase: 2}}},
		{[]api.FeOpen{{Phase: 1}}, []api.FeOpen{{Phase: 1}, {Node: 1, Phase: 1}, {Node: 2, Phase: 1}, {Node: 3, Phase: 1}}},
		{[]api.FeOpen{{Node: 3, Phase: 2}, {Node: 2}, {Node: 3, Phase: 2}, {Node: 3}}, []api.FeOpen{{Node: 2}, {Node: 3}, {Node: 3, Phase: 2}}},
		{slices.Repeat([]api.FeOpen{{Node: 3, Phase: 1}}, 120), []api.FeOpen{{Node: 3, Phase: 1}}},
	} {
		if got, e := Dark(example(), c.open); !slices.Equal(got, c.want) || e != api.OK {
			t.Errorf("Dark(%v) = %v, %d, want %v", c.open, got, e, c.want)
		}
	}
}

// P6.6
func TestErrorsOfDark(t *testing.T) {
	for _, c := range []struct {
		f    api.FeFeeder
		open []api.FeOpen
		e    api.Errno
	}{
		{example(), []api.FeOpen{{Node: 4}}, api.ErrNone}, {example(), []api.FeOpen{{}, {Node: -1}}, api.ErrNone}, {example(), []api.FeOpen{{Node: math.MinInt}}, api.ErrNone}, {example(), []api.FeOpen{{Node: math.MaxInt}}, api.ErrNone},
		{example(), []api.FeOpen{{Phase: 3}}, api.ErrNone}, {example(), []api.FeOpen{{}, {Phase: -1}}, api.ErrNone},
		{example(), make([]api.FeOpen, 121), api.ErrLong}, {example(), slices.Repeat([]api.FeOpen{{Node: 4}}, 121), api.ErrLong},
		{wrong(), make([]api.FeOpen, 121), api.ErrTwice}, {wrong(), []api.FeOpen{{Node: 4}}, api.ErrTwice}, {wrong(), nil, api.ErrTwice},
	} {
		if got, e := Dark(c.f, c.open); len(got) != 0 || e != c.e {
			t.Errorf("Dark(%v) = %v, %d, want %d", c.open, got, e, c.e)
		}
	}
}

// P6.2 to P6.5: the error of Check comes first, then that of the node or the fuse, then the others.
func TestErrors(t *testing.T) {
	for _, n := range []int{-1, 4, 40, math.MinInt, math.MaxInt} {
		refused(t, example(), n, -1, api.ErrNone)
		refused(t, wrong(), n, 0, api.ErrTwice)
	}
	if got, opens, e := Melt(example(), 2, -1); got != (api.Encl{}) || opens || e != api.ErrNone {
		t.Errorf("Melt(2) = %v, %v, %d", got, opens, e)
	}
	refused(t, wrong(), 1, 0, api.ErrTwice)
	if got, e := Judge(wrong()); len(got) != 0 || e != api.ErrTwice {
		t.Errorf("Judge = %v, %d", got, e)
	}
	for _, n := range []int{-1, 3, math.MinInt, math.MaxInt} {
		if got, e := Drop(example(), 1, n); got != 0 || e != api.ErrRange {
			t.Errorf("Drop(1, %d) = %d, %d", n, got, e)
		}
	}
	for _, n := range []int{-1, 1000000001, math.MinInt, math.MaxInt} {
		if got, e := First(example(), 0, n); got != 0 || e != api.ErrRange {
			t.Errorf("First(0, %d) = %d, %d", n, got, e)
		}
		if got, opens, e := Melt(example(), 1, n); got != (api.Encl{}) || opens || e != api.ErrRange {
			t.Errorf("Melt(1, %d) = %v, %v, %d", n, got, opens, e)
		}
	}
}

// refused checks what all functions with a node say of one, and of a current.
func refused(t *testing.T, f api.FeFeeder, node, current int, want api.Errno) {
	t.Helper()
	if got, e := Path(f, node); len(got) != 0 || e != want {
		t.Errorf("Path(%d) = %v, %d, want %d", node, got, e, want)
	}
	if got, e := Currents(f, node); got != ([3]api.Encl{}) || e != want {
		t.Errorf("Currents(%d) = %v, %d, want %d", node, got, e, want)
	}
	if got, e := Neutral(f, node); got != 0 || e != want {
		t.Errorf("Neutral(%d) = %d, %d, want %d", node, got, e, want)
	}
	if got, e := Drop(f, node, -1); got != 0 || e != want {
		t.Errorf("Drop(%d) = %d, %d, want %d", node, got, e, want)
	}
	if got, e := Fault(f, node, true); got != (api.Encl{}) || e != want {
		t.Errorf("Fault(%d) = %v, %d, want %d", node, got, e, want)
	}
	if got, e := Own(f, node); got != 0 || e != want {
		t.Errorf("Own(%d) = %d, %d, want %d", node, got, e, want)
	}
	if got, e := First(f, node, current); got != 0 || e != want {
		t.Errorf("First(%d) = %d, %d, want %d", node, got, e, want)
	}
	if got, opens, e := Melt(f, node, current); got != (api.Encl{}) || opens || e != want {
		t.Errorf("Melt(%d) = %v, %v, %d, want %d", node, got, opens, e, want)
	}
}

// P6.2, P6.3: there is no cable to the source.
func TestSourceHasNoCable(t *testing.T) {
	for _, f := range []api.FeFeeder{example(), single()} {
		if got, e := Currents(f, 0); got != ([3]api.Encl{}) || e != api.ErrArg {
			t.Errorf("Currents = %v, %d", got, e)
		}
		if got, e := Neutral(f, 0); got != 0 || e != api.ErrArg {
			t.Errorf("Neutral = %d, %d", got, e)
		}
		for _, earth := range []bool{false, true} {
			if got, e := Fault(f, 0, earth); got != (api.Encl{}) || e != api.ErrArg {
				t.Errorf("Fault(%v) = %v, %d", earth, got, e)
			}
		}
	}
}
