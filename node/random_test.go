package node

import (
	"math/rand"
	"slices"
	"testing"

	"linkboy/api"
)

// pick returns one of some numbers.
func pick(r *rand.Rand, some ...int) int { return some[r.Intn(len(some))] }

// between returns a number from a to b, often one of these.
func between(r *rand.Rand, a, b int) int { return pick(r, a, b, a+r.Intn(b-a+1), a+r.Intn(b-a+1)) }

// nightWith returns a night that has all of another one.
func nightWith(r *rand.Rand, n api.SnNight) api.SnNight {
	on := between(r, max(0, n.Off-86400), n.On)
	return night(on, between(r, n.Off, on+86400))
}

func randomSet(r *rand.Rand) api.NdSet {
	on := between(r, 0, 86400)
	c := api.NdSet{Floor: between(r, 1, 1000), Core: night(on, between(r, on+1, on+pick(r, 86400, 20000))), Hold: between(r, 1, pick(r, 86400, 2000))}
	c.Default = nightWith(r, c.Core)
	c.CellOn = between(r, 0, 999999999)
	c.CellOff = between(r, c.CellOn+1, 1000000000)
	return c
}

// place is where random events happen: the set-up, and about which day.
type place struct {
	api.NdSet
	day int
}

func randomPlace(r *rand.Rand) place {
	return place{randomSet(r), pick(r, 0, 1, 1000, 39990, 40000, 46295, r.Intn(46296))}
}

// time returns a time about the day, often one at which a night begins or ends.
func (p place) time(r *rand.Rand) int {
	n := []api.SnNight{p.Core, p.Default}[r.Intn(2)]
	at := pick(r, n.On, n.Off, n.On+86400, n.Off-86400, r.Intn(86400), r.Intn(86400)) + pick(r, 0, 0, -1)
	return min(max(0, p.day*86400+at), 4000000000)
}

func (p place) plan(r *rand.Rand) api.NdPlan {
	plan := api.NdPlan{First: min(40000, max(0, p.day-r.Intn(5)))}
	for range r.Intn(6) {
		plan.Nights = append(plan.Nights, nightWith(r, p.Core))
	}
	return plan
}

func (p place) hold(r *rand.Rand) api.NdHold {
	from := min(p.time(r), 4000000000-1)
	return api.NdHold{From: from, Until: min(4000000000, from+between(r, 1, p.Hold)), Level: between(r, 0, 1000)}
}

// message returns a message without an error.
func (p place) message(r *rand.Rand, kind, number int) api.NdMessage {
	m := api.NdMessage{Kind: kind, Number: number}
	switch kind {
	case api.NdMsgTime:
		m.Time = p.time(r)
	case api.NdMsgPlan:
		m.Plan = p.plan(r)
	case api.NdMsgDim, api.NdMsgForce:
		m.Hold = p.hold(r)
	case api.NdMsgUpdate:
		m.Version = between(r, 1, 1000000)
	}
	return m
}

// spoil changes a message; it may have no error after this.
func (p place) spoil(r *rand.Rand, m *api.NdMessage) {
	n := pick(r, -1, 0, 1, 40001, 86401, 1000001, 1000000001, 4000000001, p.Hold, m.Hold.From+p.Hold+1, extremes[r.Intn(len(extremes))])
	fields := []*int{&m.Kind, &m.Number, &m.Time, &m.Plan.First, &m.Hold.From, &m.Hold.Until, &m.Hold.Level, &m.Version}
	for i := range m.Plan.Nights {
		fields = append(fields, &m.Plan.Nights[i].On, &m.Plan.Nights[i].Off)
	}
	switch at := r.Intn(len(fields) + 1); {
	case at < len(fields):
		*fields[at] = n
	case r.Intn(2) == 0:
		m.Plan.Nights = append(m.Plan.Nights, night(p.Core.On+r.Intn(2), p.Core.Off-r.Intn(2)))
	default:
		m.Plan.Nights = slices.Repeat([]api.SnNight{p.Core}, between(r, 39, 42))
	}
}

func (p place) light(r *rand.Rand) int {
	return pick(r, -1, 0, p.CellOn, p.CellOn+1, p.CellOff-1, p.CellOff, 1000000000)
}

// event returns an event, which is sometimes one that is refused.
func (p place) event(r *rand.Rand) api.NdEvent {
	if r.Intn(50) == 0 {
		return api.NdEvent{Kind: pick(r, 0, 4, -1, 77), Message: updateTo(1, 1), Seconds: 5}
	}
	switch r.Intn(10) {
	case 0:
		return api.NdEvent{Kind: api.NdCut, Seconds: -3, Light: -3}
	case 1, 2, 3, 4:
		return ticks(pick(r, -1, 0, 1, 7, 1000, 20000, 86400, 86401, r.Intn(86400), r.Intn(5000)), pick(r, -2, p.light(r), p.light(r), p.light(r), p.light(r), 1000000001))
	}
	m := p.message(r, 1+r.Intn(5), 1+r.Intn(60))
	if r.Intn(5) == 0 {
		p.spoil(r, &m)
	}
	return takes(m)
}

func (p place) events(r *rand.Rand) (l []api.NdEvent) {
	for range r.Intn(40) {
		l = append(l, p.event(r))
	}
	return l
}

// P8.3, P8.4: the states, levels and errors are those that the events before ask for.
func TestRandomEvents(t *testing.T) {
	r := rand.New(rand.NewSource(804))
	errors, lights := map[api.Errno]int{}, map[bool]int{}
	for range 4000 {
		p := randomPlace(r)
		c, l := p.NdSet, p.events(r)
		s, levels, refused, e := Run(c, l)
		if e != api.OK || len(levels) != len(l) || len(refused) != len(l) {
			t.Fatalf("Run(%v, %v) = %v, %v, %d", c, l, levels, refused, e)
		}
		var h history
		state, _ := New(c)
		for i, v := range l {
			want := h.wantRefusal(c, v)
			errors[want]++
			after, e := do(c, state, v)
			if e != want || refused[i] != want {
				t.Fatalf("%v after %v: %d, %d, want %d", v, h, e, refused[i], want)
			}
			if want == api.OK {
				h, state = append(h, v), after
			}
			if !isSame(state, h.state(c)) || levels[i] != state.Level {
				t.Fatalf("%v after %v: %v, %d, want %v", c, h, state, levels[i], h.state(c))
			}
			lights[levels[i] > 0]++
		}
		if !isSame(s, state) {
			t.Fatalf("Run(%v, %v) = %v, want %v", c, l, s, state)
		}
	}
	for _, e := range []api.Errno{api.OK, api.ErrArg, api.ErrRange, api.ErrLong, api.NdErrOld, api.NdErrCore} {
		if errors[e] < 20 {
			t.Errorf("%d events are refused with %d", errors[e], e)
		}
	}
	if lights[true] < 10000 || lights[false] < 10000 {
		t.Errorf("lamps that burn, and do not: %v", lights)
	}
}

// state returns a state that is one of the set-up, but may be reached by no events.
func (p place) state(r *rand.Rand) api.NdState {
	s := api.NdState{Clock: r.Intn(3) > 0, Plan: p.plan(r), Dim: p.hold(r), Force: p.hold(r), Version: between(r, 0, 1000000), Broken: r.Intn(2) == 0, Dark: r.Intn(2) == 0, Level: between(r, 0, 1000), Count: between(r, 0, 1000000000)}
	for kind := 1; kind < len(s.Numbers); kind++ {
		s.Numbers[kind] = pick(r, 0, 5, 1000000000, r.Intn(60))
	}
	if s.Clock {
		s.Time = p.time(r)
	}
	return s
}

// P8.1, P8.2, P8.3: in any states of a set-up.
func TestRandomStates(t *testing.T) {
	r := rand.New(rand.NewSource(803))
	events := 0
	for range 20000 {
		p := randomPlace(r)
		c, s, v := p.NdSet, p.state(r), p.event(r)
		if e := CheckState(c, s); e != api.OK {
			t.Fatalf("CheckState(%v, %v) = %d", c, s, e)
		}
		day := min(40000, max(0, p.day+r.Intn(9)-4))
		if n, e := Night(c, s, day); n != wantNight(c, s.Plan, day) || e != api.OK {
			t.Fatalf("Night(%v, %v, %d) = %v, %d", c, s, day, n, e)
		}
		after, e := do(c, s, v)
		if e != api.OK {
			continue
		}
		events++
		if after.Level != wantLevel(c, after) || after.Count != s.Count+1 || CheckState(c, after) != api.OK {
			t.Fatalf("%v: %v becomes %v with %v", c, s, after, v)
		}
	}
	if events < 5000 {
		t.Errorf("%d events", events)
	}
}

// randomReport returns what is known of a node, often with one of the versions 4 and 5.
func randomReport(r *rand.Rand) api.NdReport {
	return api.NdReport{Count: r.Intn(9), Level: r.Intn(1001), Version: pick(r, 0, 4, 5, 5, 5, 6), Good: r.Intn(4) > 0}
}

func randomView(r *rand.Rand, nodes int) (view []api.NdReport) {
	for range nodes {
		view = append(view, randomReport(r))
	}
	return view
}

// randomRoll returns an update from version 4 to 5 of most of some nodes.
func randomRoll(r *rand.Rand, nodes int) api.NdRoll {
	all := r.Perm(nodes)[r.Intn(2)*r.Intn(nodes):]
	u := roll()
	for len(all) > 0 {
		n := 1 + r.Intn(len(all))
		u.Waves = append(u.Waves, all[:n])
		all = all[n:]
	}
	return u
}

func randomSent(r *rand.Rand, nodes int) (sent []bool) {
	for range nodes {
		sent = append(sent, r.Intn(2) == 0)
	}
	return sent
}

func compareStep(t *testing.T, u api.NdRoll, s api.NdRolled, view []api.NdReport) {
	t.Helper()
	want, told := wantStep(u, s, view)
	after, orders, e := Step(u, s, view)
	if !slices.Equal(after.Sent, want.Sent) || after.Failed != want.Failed || !slices.Equal(orders, told) || e != api.OK {
		t.Fatalf("Step(%v, %v, %v) = %v, %v, %d, want %v, %v", u, s, view, after, orders, e, want, told)
	}
}

// P8.6: for random updates.
func TestRandomSteps(t *testing.T) {
	r := rand.New(rand.NewSource(806))
	for range 20000 {
		nodes := 1 + r.Intn(8)
		compareStep(t, randomRoll(r, nodes), api.NdRolled{Sent: randomSent(r, nodes), Failed: r.Intn(6) == 0}, randomView(r, nodes))
	}
}

// P8.6: all states of an update of four nodes, of which one is in no wave, and all that may be known of them.
func TestAllSteps(t *testing.T) {
	u := roll([]int{1}, []int{0, 3})
	known := []api.NdReport{{}, {Version: 4}, {Version: 5}, {Version: 5, Good: true}, {Version: 6, Good: true}}
	view := make([]api.NdReport, 4)
	for n := range 5 * 5 * 5 * 5 {
		for i := range view {
			view[i] = known[n%5]
			n /= 5
		}
		for bits := range 2 << 4 {
			s := api.NdRolled{Failed: bits>>4 == 1}
			for i := range view {
				s.Sent = append(s.Sent, bits>>i&1 == 1)
			}
			compareStep(t, u, s, view)
		}
	}
}
