package node

import (
	"math"
	"slices"
	"testing"

	"linkboy/api"
)

// P8.5
func TestMerge(t *testing.T) {
	view := []api.NdReport{{}, {Count: 5, Level: 300, Version: 7, Good: true}, {Count: 1}}
	for i, one := range []struct {
		node    int
		r       api.NdReport
		isTaken bool
	}{
		{0, api.NdReport{Count: 1}, true},
		{0, api.NdReport{}, false},
		{0, api.NdReport{Level: 5, Version: 5, Good: true}, false},
		{1, api.NdReport{Count: 6}, true},
		{1, api.NdReport{Count: 6, Level: 1, Version: 2}, true},
		{1, api.NdReport{Count: 5, Level: 1, Version: 2}, false},
		{1, api.NdReport{Count: 4, Level: 1, Version: 9}, false},
		{1, api.NdReport{}, false},
		{2, api.NdReport{Count: 1000000000, Level: 1000000000, Version: 1000000000, Good: true}, true},
	} {
		want := slices.Clone(view)
		if one.isTaken {
			want[one.node] = one.r
		}
		if got, e := Merge(view, one.node, one.r); !slices.Equal(got, want) || e != api.OK {
			t.Errorf("case %d: Merge = %v, %d, want %v", i, got, e, want)
		}
	}
	strange := []api.NdReport{{Count: -5, Level: -7}, {Count: math.MaxInt}} // only the new report is checked
	if got, e := Merge(strange, 0, api.NdReport{}); !slices.Equal(got, []api.NdReport{{}, {Count: math.MaxInt}}) || e != api.OK {
		t.Errorf("Merge = %v, %d", got, e)
	}
}

// P8.5
func TestMergesThatAreRefused(t *testing.T) {
	refuses := func(nodes, node int, r api.NdReport, want api.Errno) {
		t.Helper()
		got, e := Merge(make([]api.NdReport, nodes), node, r)
		isRefused(t, "Merge", got, e, want)
	}
	good, bad := api.NdReport{Count: 1}, api.NdReport{Count: -1}
	for _, node := range append([]int{-1, 60, 61}, extremes...) {
		for _, r := range []api.NdReport{good, bad} {
			refuses(61, node, r, api.ErrLong)
			refuses(60, node, r, api.ErrNone)
			refuses(1, node, r, api.ErrNone)
			refuses(0, node, r, api.ErrNone)
		}
	}
	refuses(0, 0, bad, api.ErrNone)
	refuses(61, 0, good, api.ErrLong)
	for _, n := range append([]int{-1, 1000000001}, extremes...) {
		refuses(60, 59, api.NdReport{Count: n}, api.ErrRange)
		refuses(60, 59, api.NdReport{Level: n}, api.ErrRange)
		refuses(60, 59, api.NdReport{Version: n}, api.ErrRange)
	}
	if got, e := Merge(make([]api.NdReport, 60), 59, good); len(got) != 60 || got[59] != good || e != api.OK {
		t.Errorf("Merge = %v, %d", got, e)
	}
}

// roll returns an update from version 4 to 5.
func roll(waves ...[]int) api.NdRoll { return api.NdRoll{Waves: waves, Old: 4, New: 5} }

// ordersTo returns orders to take a version.
func ordersTo(version int, nodes ...int) (l []api.NdOrder) {
	for _, n := range nodes {
		l = append(l, api.NdOrder{Node: n, Version: version})
	}
	return l
}

// tells checks what a step tells nodes, and returns the state after it.
func tells(t *testing.T, r api.NdRoll, s api.NdRolled, view []api.NdReport, want []api.NdOrder, sent []bool, failed bool) api.NdRolled {
	t.Helper()
	after, orders, e := Step(r, s, view)
	if !slices.Equal(orders, want) || !slices.Equal(after.Sent, sent) || after.Failed != failed || e != api.OK {
		t.Errorf("Step(%v, %v, %v) = %v, %v, %d, want %v, %v, %v", r, s, view, after, orders, e, want, sent, failed)
	}
	return after
}

// P8.6: the examples, and what comes after them.
func TestStepExamples(t *testing.T) {
	r := roll([]int{1}, []int{0, 2})
	s, e := Start(r, 3)
	if !slices.Equal(s.Sent, []bool{false, false, false}) || s.Failed || e != api.OK {
		t.Fatalf("Start = %v, %d", s, e)
	}
	view := make([]api.NdReport, 3)
	s = tells(t, r, s, view, ordersTo(5, 1), []bool{false, true, false}, false)
	s = tells(t, r, s, view, ordersTo(5, 1), []bool{false, true, false}, false) // the message may be lost
	view[1] = api.NdReport{Count: 1, Version: 5, Good: true}
	all := []bool{true, true, true}
	s = tells(t, r, s, view, ordersTo(5, 0, 2), all, false)
	view[0] = api.NdReport{Count: 1, Version: 5}
	s = tells(t, r, s, view, ordersTo(4, 0, 1, 2), all, true)
	view[0].Good = true // too late
	s = tells(t, r, s, view, ordersTo(4, 0, 1, 2), all, true)
	view[1].Version = 4
	s = tells(t, r, s, view, ordersTo(4, 0, 2), all, true)
	view[0], view[2] = api.NdReport{Count: 9, Version: 4}, api.NdReport{Count: 9, Version: 4}
	tells(t, r, s, view, nil, all, true)
}

// P8.6
func TestSteps(t *testing.T) {
	r := roll([]int{3, 1}, []int{2}, []int{0})
	r.Waves = append(r.Waves, []int{4})
	none, well, bad := api.NdReport{}, api.NdReport{Count: 1, Version: 5, Good: true}, api.NdReport{Count: 1, Version: 5}
	old, other := api.NdReport{Count: 1, Version: 4, Good: true}, api.NdReport{Count: 1, Version: 6, Good: true}
	for i, one := range []struct {
		view   []api.NdReport
		sent   []int
		failed bool
		orders []api.NdOrder
		after  []int
		fails  bool
	}{
		{[]api.NdReport{none, none, none, none, none, none}, nil, false, ordersTo(5, 3, 1), []int{1, 3}, false},
		{[]api.NdReport{none, old, none, other, none, none}, nil, false, ordersTo(5, 3, 1), []int{1, 3}, false},
		{[]api.NdReport{none, well, none, none, none, none}, nil, false, ordersTo(5, 3), []int{3}, false},
		{[]api.NdReport{none, bad, none, none, none, none}, nil, false, ordersTo(5, 3), []int{3}, false}, // it has New by itself
		{[]api.NdReport{none, bad, none, well, none, none}, nil, false, nil, nil, false},
		{[]api.NdReport{none, bad, none, well, none, none}, []int{1}, false, ordersTo(4, 1), []int{1}, true},
		{[]api.NdReport{none, bad, none, well, none, none}, []int{3}, false, nil, []int{3}, false},
		{[]api.NdReport{none, well, none, well, none, none}, nil, false, ordersTo(5, 2), []int{2}, false},
		{[]api.NdReport{well, well, well, well, well, none}, []int{1, 2}, false, nil, []int{1, 2}, false},
		{[]api.NdReport{well, well, well, well, none, none}, []int{1, 2}, false, ordersTo(5, 4), []int{1, 2, 4}, false},
		{[]api.NdReport{well, well, bad, well, none, none}, []int{0, 1, 2, 3}, false, ordersTo(4, 0, 1, 2, 3), []int{0, 1, 2, 3}, true},
		{[]api.NdReport{other, old, bad, well, none, none}, []int{0, 1, 2, 4}, false, ordersTo(4, 0, 2, 4), []int{0, 1, 2, 4}, true},
		{[]api.NdReport{none, none, none, none, none, bad}, []int{5}, false, ordersTo(4, 5), []int{5}, true}, // in no wave
		{[]api.NdReport{none, none, none, none, none, none}, nil, true, nil, nil, true},
		{[]api.NdReport{none, none, none, none, none, old}, []int{3, 5}, true, ordersTo(4, 3), []int{3, 5}, true},
		{[]api.NdReport{old, other, none, other, none, none}, []int{1, 3}, false, ordersTo(5, 3, 1), []int{1, 3}, false}, // other versions are no failure
	} {
		t.Run(string(rune('a'+i)), func(t *testing.T) {
			tells(t, r, api.NdRolled{Sent: marks(6, one.sent), Failed: one.failed}, one.view, one.orders, marks(6, one.after), one.fails)
		})
	}
}

// marks returns a list in which some elements are true.
func marks(count int, some []int) []bool {
	l := make([]bool, count)
	for _, i := range some {
		l[i] = true
	}
	return l
}

// P8.6: an update of all nodes, in as many waves as there may be.
func TestGreatUpdate(t *testing.T) {
	r := api.NdRoll{Old: 1000000, New: 1}
	for i := range 20 {
		r.Waves = append(r.Waves, []int{59 - i, i, 39 - i})
	}
	s, e := Start(r, 60)
	if len(s.Sent) != 60 || slices.Contains(s.Sent, true) || e != api.OK {
		t.Fatalf("Start = %v, %d", s, e)
	}
	view := make([]api.NdReport, 60)
	for _, wave := range r.Waves {
		var orders []api.NdOrder
		s, orders, e = Step(r, s, view)
		if !slices.Equal(orders, ordersTo(1, wave...)) || e != api.OK {
			t.Fatalf("Step = %v, %d, want %v", orders, e, wave)
		}
		for _, o := range orders {
			view[o.Node] = api.NdReport{Count: 1, Version: o.Version, Good: true}
		}
	}
	if s, orders, e := Step(r, s, view); slices.Contains(s.Sent, false) || s.Failed || len(orders) != 0 || e != api.OK {
		t.Errorf("Step = %v, %v, %d", s, orders, e)
	}
}

// rollFault is an error of an update of five nodes.
type rollFault struct {
	e     api.Errno
	spoil func(r *api.NdRoll, nodes *int)
}

// rollFaults returns errors of updates in lists, of which an earlier one decides; all waves are behind those that there are already.
func rollFaults() [][]rollFault {
	var long, empty, none, twice, beyond []rollFault
	for _, n := range []int{61, 1000000, math.MaxInt} {
		long = append(long, rollFault{api.ErrLong, func(_ *api.NdRoll, nodes *int) { *nodes = n }})
	}
	long = append(long,
		rollFault{api.ErrLong, func(r *api.NdRoll, _ *int) { r.Waves = append(r.Waves, make([][]int, 18)...) }},
		rollFault{api.ErrLong, func(r *api.NdRoll, _ *int) { r.Waves = append(r.Waves, slices.Repeat([][]int{{4}}, 18)...) }})
	for _, wave := range [][]int{nil, {}} {
		empty = append(empty, rollFault{api.ErrNone, func(r *api.NdRoll, _ *int) { r.Waves = append(r.Waves, wave) }})
	}
	for _, node := range append([]int{-1, 5, 60}, extremes...) {
		none = append(none, rollFault{api.ErrNone, func(r *api.NdRoll, _ *int) { r.Waves = append(r.Waves, []int{4, node}) }})
	}
	for _, wave := range [][]int{{1}, {4, 2}, {4, 4}, {4, 3, 0}} {
		twice = append(twice, rollFault{api.ErrTwice, func(r *api.NdRoll, _ *int) { r.Waves = append(r.Waves, wave) }})
	}
	for _, version := range append([]int{-1, 0, 1000001}, extremes...) {
		beyond = append(beyond,
			rollFault{api.ErrRange, func(r *api.NdRoll, _ *int) { r.Old = version }},
			rollFault{api.ErrRange, func(r *api.NdRoll, _ *int) { r.New = version }},
			rollFault{api.ErrRange, func(r *api.NdRoll, _ *int) { r.Old, r.New = version, version }})
	}
	equal := []rollFault{{api.ErrArg, func(r *api.NdRoll, _ *int) { r.Old = r.New }}}
	return [][]rollFault{long, empty, none, twice, beyond, equal}
}

// refusesRoll checks that Start and Step refuse an update after some changes, whatever is known.
func refusesRoll(t *testing.T, want api.Errno, faults ...rollFault) {
	t.Helper()
	r, nodes := roll([]int{1}, []int{0, 2}, []int{3}), 5
	for _, f := range faults {
		f.spoil(&r, &nodes)
	}
	s, e := Start(r, nodes)
	isRefused(t, "Start", s, e, want)
	for _, known := range []int{5, 61, 0} {
		s, orders, e := Step(r, api.NdRolled{Sent: make([]bool, min(nodes, 100))}, make([]api.NdReport, known))
		isRefused(t, "Step", s, e, want)
		isRefused(t, "Step", orders, e, want)
	}
}

// P8.6
func TestRollsThatAreRefused(t *testing.T) {
	all := rollFaults()
	for i, list := range all {
		for _, f := range list {
			refusesRoll(t, f.e, f)
			for _, g := range slices.Concat(all[i+1:]...) {
				refusesRoll(t, f.e, g, f)
				if g.e == api.ErrNone || g.e == api.ErrTwice { // in a wave behind that of f
					refusesRoll(t, f.e, f, g)
				}
			}
		}
	}
}

// P8.6: updates without waves, and numbers of nodes that are none.
func TestRollsWithoutNodes(t *testing.T) {
	for _, r := range []api.NdRoll{roll(), {Old: 4, New: 4}, {Waves: [][]int{}}} {
		for _, nodes := range []int{math.MinInt, -1, 0, 5, 60} {
			s, e := Start(r, nodes)
			isRefused(t, "Start", s, e, api.ErrNone)
		}
		s, e := Start(r, 61)
		isRefused(t, "Start", s, e, api.ErrLong)
		s, orders, e := Step(r, api.NdRolled{}, nil)
		isRefused(t, "Step", s, e, api.ErrNone)
		isRefused(t, "Step", orders, e, api.ErrNone)
	}
	for _, node := range append([]int{0, -1, 5}, extremes...) {
		for _, nodes := range []int{math.MinInt, math.MinInt + 1, -1, 0} {
			s, e := Start(roll([]int{node}), nodes)
			isRefused(t, "Start", s, e, api.ErrNone)
		}
		s, orders, e := Step(roll([]int{node}), api.NdRolled{}, nil)
		isRefused(t, "Step", s, e, api.ErrNone)
		isRefused(t, "Step", orders, e, api.ErrNone)
	}
}

// P8.6: not as much is known as there are nodes.
func TestStepWithoutReports(t *testing.T) {
	r := roll([]int{0})
	for _, known := range []int{0, 1, 2, 4, 61} {
		s, orders, e := Step(r, api.NdRolled{Sent: make([]bool, 3), Failed: known == 1}, make([]api.NdReport, known))
		isRefused(t, "Step", s, e, api.ErrForm)
		isRefused(t, "Step", orders, e, api.ErrForm)
	}
}

// P8.6: the least and the greatest versions.
func TestVersions(t *testing.T) {
	for _, versions := range [][2]int{{1, 1000000}, {1000000, 1}, {2, 1}} {
		r := api.NdRoll{Waves: [][]int{{0}}, Old: versions[0], New: versions[1]}
		if s, e := Start(r, 1); !slices.Equal(s.Sent, []bool{false}) || s.Failed || e != api.OK {
			t.Errorf("Start(%v) = %v, %d", r, s, e)
		}
		tells(t, r, api.NdRolled{Sent: []bool{false}}, []api.NdReport{{}}, ordersTo(versions[1], 0), []bool{true}, false)
	}
}
