package node

import (
	"math/rand"
	"reflect"
	"slices"
	"testing"

	"linkboy/api"
)

// withOwnNights returns a plan that shares no memory with another one.
func withOwnNights(p api.NdPlan) api.NdPlan {
	p.Nights = slices.Clone(p.Nights)
	return p
}

// separate returns events that share no memory with others.
func separate(l []api.NdEvent) []api.NdEvent {
	l = slices.Clone(l)
	for i := range l {
		l[i].Message.Plan = withOwnNights(l[i].Message.Plan)
	}
	return l
}

// P8.14
func TestArgumentsAreNotModified(t *testing.T) {
	r := rand.New(rand.NewSource(8140))
	for range 500 {
		p := randomPlace(r)
		l, s := p.events(r), p.state(r)
		wasEvents, was := separate(l), s
		was.Plan = withOwnNights(s.Plan)
		Run(p.NdSet, l)
		CheckState(p.NdSet, s)
		Night(p.NdSet, s, p.day)
		for _, v := range l {
			do(p.NdSet, s, v)
		}
		if !isSame(s, was) || !reflect.DeepEqual(l, wasEvents) {
			t.Fatalf("%v and %v became %v and %v", was, wasEvents, s, l)
		}
		nodes := 1 + r.Intn(8)
		u, sent, view := randomRoll(r, nodes), randomSent(r, nodes), randomView(r, nodes)
		wasWaves, wasSent, wasView := slices.Concat(u.Waves...), slices.Clone(sent), slices.Clone(view)
		Merge(view, r.Intn(nodes), randomReport(r))
		Start(u, nodes)
		Step(u, api.NdRolled{Sent: sent}, view)
		if !slices.Equal(slices.Concat(u.Waves...), wasWaves) || !slices.Equal(sent, wasSent) || !slices.Equal(view, wasView) {
			t.Fatalf("%v, %v and %v became %v, %v and %v", wasWaves, wasSent, wasView, u, sent, view)
		}
	}
}

// P8.14: states share no memory with what they are made from.
func TestStatesAreNew(t *testing.T) {
	c := setup()
	full, was := fullState(), fullState()
	m, wasMessage := planIs(9, plan(1000, c.Core)), planIs(9, plan(1000, c.Core))
	l := []api.NdEvent{takes(m)}
	var results []api.NdState
	add := func(s api.NdState, e api.Errno) {
		if len(s.Plan.Nights) == 0 || e != api.OK {
			t.Fatalf("%v, %d", s, e)
		}
		results = append(results, s)
	}
	add(Take(c, full, m))
	add(Take(c, full, updateTo(9, 9)))
	add(Take(c, full, timeIs(9, 9)))
	add(Tick(c, full, 9, 9))
	add(Cut(c, full))
	add(end(c, l))
	add(end(c, l))
	for _, s := range results {
		s.Plan.Nights[0] = night(7, 8)
		_ = append(s.Plan.Nights, night(7, 8))
	}
	if !isSame(full, was) || !reflect.DeepEqual(m, wasMessage) {
		t.Errorf("%v and %v became %v and %v", was, wasMessage, full, m)
	}
	results = nil
	add(Take(c, full, m))
	add(end(c, l))
	full.Plan.Nights[0], m.Plan.Nights[0] = night(7, 8), night(7, 8)
	for _, s := range results {
		if s.Plan.Nights[0] != c.Core {
			t.Errorf("%v changes with its message", s)
		}
	}
}

// end returns the state and the error of Run.
func end(c api.NdSet, l []api.NdEvent) (api.NdState, api.Errno) {
	s, _, _, e := Run(c, l)
	return s, e
}

// P8.14: what is known, and updates, share no memory with what they are made from.
func TestUpdatesAreNew(t *testing.T) {
	view := make([]api.NdReport, 2, 10)
	for _, count := range []int{0, 3} {
		after, _ := Merge(view, 1, api.NdReport{Count: count})
		after[0].Count = 7
		if view[0].Count != 0 || view[1].Count != 0 {
			t.Errorf("Merge changes %v", view)
		}
	}
	r := roll([]int{0, 1})
	for _, first := range []api.NdRolled{{Sent: []bool{false, false}}, {Sent: []bool{false, false}, Failed: true}} {
		after, orders, _ := Step(r, first, view)
		again, same, _ := Step(r, first, view)
		after.Sent[0] = !after.Sent[0]
		for i := range orders {
			orders[i].Node = 7
		}
		if slices.Contains(first.Sent, true) || again.Sent[0] == first.Failed || !first.Failed && same[0].Node != 0 {
			t.Errorf("Step shares memory: %v, %v, %v", first, again, same)
		}
	}
	s, _ := Start(r, 2)
	again, _ := Start(r, 2)
	s.Sent[0] = true
	if again.Sent[0] {
		t.Error("Start shares memory")
	}
}

// anyNumber returns a number that may be far beyond all limits.
func anyNumber(r *rand.Rand) int {
	if r.Intn(4) == 0 {
		return extremes[r.Intn(len(extremes))]
	}
	return pick(r, -2, -1, 0, 1, 2, 5, 40, 41, 60, 61, 300, 1000, 1001, 40000, 86400, 86401, 172800, 1000000, 1000000000, 1000000001, 4000000000, 4000000001)
}

func anyNight(r *rand.Rand) api.SnNight { return night(anyNumber(r), anyNumber(r)) }

func anyPlan(r *rand.Rand) api.NdPlan { return plan(anyNumber(r), anyNight(r), anyNight(r)) }

func anyHold(r *rand.Rand) api.NdHold {
	return api.NdHold{From: anyNumber(r), Until: anyNumber(r), Level: anyNumber(r)}
}

func anyMessage(r *rand.Rand) api.NdMessage {
	return api.NdMessage{Kind: anyNumber(r), Number: anyNumber(r), Time: anyNumber(r), Plan: anyPlan(r), Hold: anyHold(r), Version: anyNumber(r)}
}

// P8.14: any numbers are accepted.
func TestAnyArguments(t *testing.T) {
	r := rand.New(rand.NewSource(8141))
	for range 20000 {
		p := randomPlace(r)
		c, s := p.NdSet, p.state(r)
		sets := []*int{&c.Floor, &c.Hold, &c.CellOn, &c.CellOff, &c.Core.On, &c.Core.Off, &c.Default.On, &c.Default.Off}
		if r.Intn(3) == 0 {
			*sets[r.Intn(len(sets))] = anyNumber(r)
		}
		states := []*int{&s.Numbers[0], &s.Numbers[3], &s.Time, &s.Plan.First, &s.Dim.From, &s.Dim.Until, &s.Force.Until, &s.Force.Level, &s.Version, &s.Level, &s.Count}
		if r.Intn(3) == 0 {
			*states[r.Intn(len(states))] = anyNumber(r)
		}
		e := CheckState(c, s)
		v := api.NdEvent{Kind: 1 + r.Intn(3), Message: anyMessage(r), Seconds: anyNumber(r), Light: anyNumber(r)}
		if after, again := do(c, s, v); e != api.OK && again != e || again == api.OK && CheckState(c, after) != api.OK {
			t.Fatalf("%v, %v: %v leads to %v, %d", c, s, v, after, again)
		}
		Check(c)
		New(c)
		Night(c, s, anyNumber(r))
		Run(c, []api.NdEvent{v, p.event(r), v})
		Merge(make([]api.NdReport, r.Intn(63)), anyNumber(r), api.NdReport{Count: anyNumber(r), Level: anyNumber(r), Version: anyNumber(r)})
		u := api.NdRoll{Waves: [][]int{{anyNumber(r)}, {anyNumber(r), anyNumber(r)}}[r.Intn(3):], Old: anyNumber(r), New: anyNumber(r)}
		Start(u, anyNumber(r))
		Step(u, api.NdRolled{Sent: make([]bool, r.Intn(63))}, make([]api.NdReport, r.Intn(63)))
	}
}
