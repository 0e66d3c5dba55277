package node

import (
	"math/rand"
	"slices"
	"testing"

	"linkboy/api"
)

// walk yields the states through which random events lead, from the state at first on, and from any other one.
func walk(r *rand.Rand) func(yield func(p place, s api.NdState) bool) {
	return func(yield func(p place, s api.NdState) bool) {
		for i := range 20000 {
			p := randomPlace(r)
			s, _ := New(p.NdSet)
			if i%2 == 1 {
				s = p.state(r)
				s.Level, s.Count = wantLevel(p.NdSet, s), 0
			}
			if !yield(p, s) {
				return
			}
			for _, v := range p.events(r) {
				after, e := do(p.NdSet, s, v)
				if e != api.OK {
					continue
				}
				s = after
				if !yield(p, s) {
					return
				}
			}
		}
	}
}

// P8.7: whenever the clock is known, and the core has the time.
func TestCoreIsLit(t *testing.T) {
	r := rand.New(rand.NewSource(807))
	lit, dark, dimmed := 0, 0, 0
	for p, s := range walk(r) {
		if !s.Clock || !isInNight(s.Time, func(int) api.SnNight { return p.Core }) {
			continue
		}
		if s.Level < p.Floor {
			t.Fatalf("%v: the level of %v is below the floor", p, s)
		}
		lit++
		if !s.Broken && !s.Dark {
			dark++
		}
		if s.Level < 1000 && s.Level == p.Floor {
			dimmed++
		}
	}
	if lit < 10000 || dark < 2000 || dimmed < 500 {
		t.Errorf("%d states, of which the cell says of %d that it is day, and %d have the floor", lit, dark, dimmed)
	}
}

// P8.8: whenever the cell says that it is dark, and whenever the node is blind.
func TestDarkIsLit(t *testing.T) {
	r := rand.New(rand.NewSource(808))
	dark, blind, byDay, dimmed := 0, 0, 0, 0
	for p, s := range walk(r) {
		isDark, isBlind := !s.Broken && s.Dark, s.Broken && !s.Clock
		if !isDark && !isBlind {
			continue
		}
		if s.Level < p.Floor {
			t.Fatalf("%v: the level of %v is below the floor", p, s)
		}
		if isBlind {
			blind++
			continue
		}
		dark++
		if s.Clock && !isInNight(s.Time, func(day int) api.SnNight { return wantNight(p.NdSet, s.Plan, day) }) {
			byDay++
		}
		if s.Level < 1000 && s.Level == p.Floor {
			dimmed++
		}
	}
	if dark < 10000 || blind < 10000 || byDay < 1000 || dimmed < 200 {
		t.Errorf("%d states, %d of them by day, %d with the floor, and %d blind ones", dark, byDay, dimmed, blind)
	}
}

// untimed returns a state of which only what P8.9 speaks of is left.
func untimed(s api.NdState) api.NdState {
	return api.NdState{Numbers: s.Numbers, Plan: s.Plan, Dim: s.Dim, Force: s.Force, Version: s.Version}
}

// randomMail returns messages of other kinds than NdMsgTime, no two of one kind with the same number; some have errors.
func randomMail(r *rand.Rand, p place) (l []api.NdMessage) {
	for kind := api.NdMsgPlan; kind <= api.NdMsgUpdate; kind++ {
		for _, number := range r.Perm(40)[:r.Intn(5)] {
			m := p.message(r, kind, number)
			if r.Intn(4) == 0 {
				p.spoil(r, &m)
				m.Kind, m.Number = kind, number
			}
			l = append(l, m)
		}
	}
	return l
}

// P8.9: messages in any order, also with other events between them.
func TestAnyOrder(t *testing.T) {
	r := rand.New(rand.NewSource(809))
	const tries = 4000
	late := 0
	for range tries {
		p := randomPlace(r)
		mail := randomMail(r, p)
		var ends [2]api.NdState
		for i := range ends {
			var l []api.NdEvent
			for _, at := range r.Perm(len(mail)) {
				l = append(l, takes(mail[at]))
				if r.Intn(3) == 0 {
					l = append(l, api.NdEvent{Kind: api.NdCut}, ticks(r.Intn(86400), p.light(r)), takes(p.message(r, api.NdMsgTime, len(l)+1)))
				}
			}
			s, _, refused, e := Run(p.NdSet, l)
			if e != api.OK {
				t.Fatalf("Run: %d", e)
			}
			if slices.Contains(refused, api.NdErrOld) {
				late++
			}
			ends[i] = untimed(s)
			ends[i].Numbers[api.NdMsgTime] = 0
		}
		if !isSame(ends[0], ends[1]) {
			t.Fatalf("%v: the messages %v lead to %v, and to %v", p, mail, ends[0], ends[1])
		}
	}
	if late < tries/2 {
		t.Errorf("some message is old %d times", late)
	}
}

// P8.9: a message that comes twice, at once or later, changes nothing the second time.
func TestTwice(t *testing.T) {
	r := rand.New(rand.NewSource(8090))
	taken := 0
	for range 3000 {
		p := randomPlace(r)
		s, _ := New(p.NdSet)
		var before []api.NdMessage
		for range 10 {
			m := p.message(r, 1+r.Intn(5), 1+r.Intn(20))
			after, e := Take(p.NdSet, s, m)
			if e == api.OK {
				s, taken = after, taken+1
				before = append(before, m)
			}
			for _, again := range before {
				after, e := Take(p.NdSet, s, again)
				if isRefused(t, "Take", after, e, api.NdErrOld); t.Failed() {
					t.Fatalf("%v: %v takes %v twice", p, s, again)
				}
			}
		}
	}
	if taken < 10000 {
		t.Errorf("%d messages are taken", taken)
	}
}

// P8.10: the night of each day has all of the core.
func TestNightsHaveTheCore(t *testing.T) {
	r := rand.New(rand.NewSource(810))
	planned := 0
	for p, s := range walk(r) {
		for day := max(0, s.Plan.First-2); day < min(40001, s.Plan.First+8); day++ {
			n, e := Night(p.NdSet, s, day)
			if n.On > p.Core.On || n.Off < p.Core.Off || e != api.OK {
				t.Fatalf("Night(%v, %v, %d) = %v, %d", p.NdSet, s, day, n, e)
			}
			if n != p.Default {
				planned++
			}
		}
	}
	if planned < 10000 {
		t.Errorf("%d nights are not the default", planned)
	}
}

// P8.10: a plan with a night that does not have all of the core is refused.
func TestPlansWithoutTheCore(t *testing.T) {
	r := rand.New(rand.NewSource(8100))
	refused := 0
	for range 5000 {
		p := randomPlace(r)
		m := p.message(r, api.NdMsgPlan, 1)
		if len(m.Plan.Nights) == 0 {
			continue
		}
		at := r.Intn(len(m.Plan.Nights))
		bad := night(between(r, 0, 86400), 0)
		bad.Off = between(r, bad.On+1, bad.On+86400)
		if bad.On <= p.Core.On && bad.Off >= p.Core.Off {
			continue
		}
		m.Plan.Nights[at] = bad
		refused++
		s, _ := New(p.NdSet)
		after, e := Take(p.NdSet, s, m)
		if isRefused(t, "Take", after, e, api.NdErrCore); t.Failed() {
			t.Fatalf("%v: %v", p, m)
		}
		s.Plan = m.Plan
		if e := CheckState(p.NdSet, s); e != api.ErrForm {
			t.Fatalf("CheckState(%v, %v) = %d", p.NdSet, s, e)
		}
	}
	if refused < 1000 {
		t.Errorf("%d plans", refused)
	}
}

// P8.11: reports in any order.
func TestReportsInAnyOrder(t *testing.T) {
	type sent struct {
		node int
		r    api.NdReport
	}
	r := rand.New(rand.NewSource(811))
	for range 5000 {
		nodes := 1 + r.Intn(5)
		first := randomView(r, nodes)
		var all []sent
		for node := range nodes {
			for _, count := range r.Perm(15)[:r.Intn(6)] {
				report := randomReport(r)
				report.Count = count
				all = append(all, sent{node, report})
			}
		}
		var ends [2][]api.NdReport
		for i := range ends {
			view := first
			for _, at := range r.Perm(len(all)) {
				one := all[at]
				after, e := Merge(view, one.node, one.r)
				if e != api.OK || len(after) != nodes {
					t.Fatalf("Merge(%v, %v) = %v, %d", view, one, after, e)
				}
				for node := range nodes {
					if node != one.node && after[node] != view[node] {
						t.Fatalf("Merge(%v, %v) = %v", view, one, after)
					}
				}
				view = after
			}
			ends[i] = view
		}
		if !slices.Equal(ends[0], ends[1]) {
			t.Fatalf("from %v on %v lead to %v, and to %v", first, all, ends[0], ends[1])
		}
	}
}

// rollout is an update, of which the steps are looked at.
type rollout struct {
	api.NdRoll
	api.NdRolled
	told      []bool // to take New, by any step
	new, back int    // orders
}

// check checks what a step tells nodes, by what is known then.
func (o *rollout) check(t *testing.T, hadFailed bool, orders []api.NdOrder, view []api.NdReport) {
	t.Helper()
	inOrder := map[int]bool{}
	for _, one := range orders {
		inOrder[one.Node] = true
		switch {
		case one.Version == o.New && (hadFailed || o.Failed || o.told[one.Node] && !o.Sent[one.Node]):
			t.Fatalf("%v: %v after a failure", o, orders)
		case one.Version == o.New:
			o.new++
			o.told[one.Node] = true
			at := slices.IndexFunc(o.Waves, func(wave []int) bool { return slices.Contains(wave, one.Node) })
			if !doAllRunWell(o.New, slices.Concat(o.Waves[:at]...), view) {
				t.Fatalf("%v: %v, but %v is known", o, orders, view)
			}
		case one.Version != o.Old || !o.Failed || !o.told[one.Node]:
			t.Fatalf("%v: %v without a failure, or to a node that was never told", o, orders)
		default:
			o.back++
		}
	}
	for node, wasTold := range o.told {
		if wasTold != o.Sent[node] || o.Failed && wasTold && inOrder[node] != (view[node].Version != o.Old) {
			t.Fatalf("%v: %v, and %v is known", o, orders, view)
		}
	}
}

// P8.12, P8.13: for any reports, at any steps.
func TestWavesFollowOneAnother(t *testing.T) {
	r := rand.New(rand.NewSource(812))
	orders, back, failures := 0, 0, 0
	for range 5000 {
		nodes := 1 + r.Intn(8)
		o := rollout{NdRoll: randomRoll(r, nodes), told: make([]bool, nodes)}
		o.NdRolled, _ = Start(o.NdRoll, nodes)
		for range 12 {
			view := randomView(r, nodes)
			if r.Intn(2) == 0 { // so that later waves are reached
				for i := range view {
					view[i].Good = true
				}
			}
			hadFailed := o.Failed
			after, told, e := Step(o.NdRoll, o.NdRolled, view)
			if e != api.OK || hadFailed && !after.Failed {
				t.Fatalf("Step(%v, %v) = %v, %v, %d", o, view, after, told, e)
			}
			o.NdRolled = after
			o.check(t, hadFailed, told, view)
		}
		orders, back = orders+o.new, back+o.back
		if o.Failed {
			failures++
		}
	}
	if orders < 10000 || back < 10000 || failures < 1000 {
		t.Errorf("%d orders, and %d back, in %d failures", orders, back, failures)
	}
}

// fleet is nodes that get an update with messages that are lost, and send reports that come late.
type fleet struct {
	versions, counts []int
	bad              int // the node that does not run well with version 5, or -1
	mail             []api.NdOrder
	reports          []fleetReport
	view             []api.NdReport
}

type fleetReport struct {
	node int
	r    api.NdReport
}

// pass lets some orders and reports arrive, in any order, and others be lost.
func (f *fleet) pass(r *rand.Rand) {
	for _, o := range f.mail {
		if r.Intn(3) > 0 {
			f.versions[o.Node] = o.Version
		}
	}
	f.mail = nil
	for node, version := range f.versions {
		f.counts[node]++
		f.reports = append(f.reports, fleetReport{node, api.NdReport{Count: f.counts[node], Version: version, Good: node != f.bad || version != 5}})
	}
	for range 2 * len(f.view) {
		one := f.reports[r.Intn(len(f.reports))]
		f.view, _ = Merge(f.view, one.node, one.r)
	}
}

// P8.12, P8.13: an update of nodes that take it comes to its end: all have New, or, if one does not run well with it, Old.
func TestUpdatesEnd(t *testing.T) {
	r := rand.New(rand.NewSource(813))
	failures := 0
	for range 300 {
		nodes := 1 + r.Intn(6)
		u := randomRoll(r, nodes)
		f := fleet{versions: slices.Repeat([]int{4}, nodes), counts: make([]int, nodes), bad: r.Intn(2*nodes) - nodes, view: make([]api.NdReport, nodes)}
		s, e := Start(u, nodes)
		for range 400 {
			s, f.mail, e = Step(u, s, f.view)
			if e != api.OK {
				t.Fatalf("Step: %d", e)
			}
			f.pass(r)
		}
		isUpdated := slices.Concat(u.Waves...)
		want := 5
		if slices.Contains(isUpdated, f.bad) {
			want = 4
			failures++
		}
		for _, node := range isUpdated {
			if f.versions[node] != want || s.Failed != (want == 4) {
				t.Fatalf("%v ends with %v, node %d is bad, failed: %v", u, f.versions, f.bad, s.Failed)
			}
		}
	}
	if failures < 50 {
		t.Errorf("%d failures", failures)
	}
}
