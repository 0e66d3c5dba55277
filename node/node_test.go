package node

import (
	"math"
	"reflect"
	"testing"

	"linkboy/api"
)

// dayD is the midnight of day D of the chapter's examples.
const dayD = 1000 * api.SnDays

// extremes are numbers far beyond all ranges.
var extremes = []int{math.MinInt, math.MinInt + 1, -1 << 40, 1 << 40, math.MaxInt - 1, math.MaxInt}

// setup returns the set-up C of the chapter's examples.
func setup() api.NdSet {
	return api.NdSet{Floor: 300, Core: night(72000, 104400), Default: night(57600, 118800), Hold: 14400, CellOn: 20000, CellOff: 40000}
}

func night(on, off int) api.SnNight { return api.SnNight{On: on, Off: off} }

func plan(first int, nights ...api.SnNight) api.NdPlan {
	return api.NdPlan{First: first, Nights: nights}
}

func takes(m api.NdMessage) api.NdEvent { return api.NdEvent{Kind: api.NdTake, Message: m} }

func ticks(seconds, light int) api.NdEvent {
	return api.NdEvent{Kind: api.NdTick, Seconds: seconds, Light: light}
}

func timeIs(number, seconds int) api.NdMessage {
	return api.NdMessage{Kind: api.NdMsgTime, Number: number, Time: seconds}
}

func planIs(number int, p api.NdPlan) api.NdMessage {
	return api.NdMessage{Kind: api.NdMsgPlan, Number: number, Plan: p}
}

// holdIs returns a message NdMsgDim or NdMsgForce.
func holdIs(kind, number, from, until, level int) api.NdMessage {
	return api.NdMessage{Kind: kind, Number: number, Hold: api.NdHold{From: from, Until: until, Level: level}}
}

func updateTo(number, version int) api.NdMessage {
	return api.NdMessage{Kind: api.NdMsgUpdate, Number: number, Version: version}
}

// do does an event with the function for it.
func do(c api.NdSet, s api.NdState, v api.NdEvent) (api.NdState, api.Errno) {
	switch v.Kind {
	case api.NdTake:
		return Take(c, s, v.Message)
	case api.NdTick:
		return Tick(c, s, v.Seconds, v.Light)
	case api.NdCut:
		return Cut(c, s)
	}
	return api.NdState{}, api.ErrArg
}

// reached returns the state after some events, none of which is refused.
func reached(t *testing.T, c api.NdSet, l ...api.NdEvent) api.NdState {
	t.Helper()
	s, _, refused, e := Run(c, l)
	if e != api.OK {
		t.Fatalf("Run: %d", e)
	}
	for i, e := range refused {
		if e != api.OK {
			t.Fatalf("event %d of %v is refused with %d", i, l, e)
		}
	}
	return s
}

// isSame reports whether two states are the same; a plan without nights may be nil or empty.
func isSame(a, b api.NdState) bool {
	if len(a.Plan.Nights) == 0 && len(b.Plan.Nights) == 0 {
		a.Plan.Nights, b.Plan.Nights = nil, nil
	}
	return reflect.DeepEqual(a, b)
}

// isRefused checks that a function has returned an error, and nothing else.
func isRefused(t *testing.T, name string, result any, e, want api.Errno) {
	t.Helper()
	if !reflect.ValueOf(result).IsZero() || e != want {
		t.Errorf("%s = %v, %d, want %d", name, result, e, want)
	}
}

// P8.1
func TestNew(t *testing.T) {
	want := api.NdState{Broken: true, Level: 1000}
	if s, e := New(setup()); !isSame(s, want) || e != api.OK {
		t.Errorf("New = %v, %d", s, e)
	}
	if e := CheckState(setup(), want); e != api.OK {
		t.Errorf("CheckState: %d", e)
	}
}

// P8.3, P8.4: the examples.
func TestExamples(t *testing.T) {
	from, until := dayD+60000, dayD+70000
	steps := []struct {
		v     api.NdEvent
		level int
		e     api.Errno
	}{
		{ticks(10, 50000), 0, api.OK},
		{ticks(10, 30000), 0, api.OK},
		{ticks(10, 15000), 1000, api.OK},
		{ticks(10, 50000), 0, api.OK},
		{takes(timeIs(1, dayD+60000)), 1000, api.OK},
		{takes(planIs(1, plan(1000, night(64800, 111600)))), 0, api.OK},
		{ticks(6000, 50000), 1000, api.OK},
		{takes(holdIs(api.NdMsgDim, 1, from, until, 100)), 300, api.OK},
		{takes(planIs(1, plan(1000, night(64800, 111600)))), 300, api.NdErrOld},
		{takes(planIs(2, plan(1000, night(72001, 111600)))), 300, api.NdErrCore},
		{api.NdEvent{Kind: api.NdCut}, 1000, api.OK},
	}
	c := setup()
	s, _ := New(c)
	var l []api.NdEvent
	for i, step := range steps {
		l = append(l, step.v)
		after, e := do(c, s, step.v)
		if e != step.e {
			t.Errorf("step %d: %d, want %d", i, e, step.e)
		}
		if e == api.OK {
			s = after
		}
		if s.Level != step.level {
			t.Errorf("step %d: the level is %d, want %d", i, s.Level, step.level)
		}
	}
	last, levels, refused, e := Run(c, l)
	if e != api.OK || !isSame(last, s) {
		t.Fatalf("Run = %v, %d, want %v", last, e, s)
	}
	for i, step := range steps {
		if levels[i] != step.level || refused[i] != step.e {
			t.Errorf("Run: step %d: %d, %d", i, levels[i], refused[i])
		}
	}
	want := api.NdState{
		Numbers: [6]int{0, 1, 1, 1},
		Plan:    plan(1000, night(64800, 111600)),
		Dim:     api.NdHold{From: from, Until: until, Level: 100},
		Broken:  true, Level: 1000, Count: 9,
	}
	if !isSame(s, want) {
		t.Errorf("the state is %v, want %v", s, want)
	}
}

// P8.2
func TestNight(t *testing.T) {
	c := setup()
	first, second := night(72000, 104400), night(60000, 110000)
	s := reached(t, c, takes(planIs(1, plan(1000, first, second))))
	for day, want := range map[int]api.SnNight{0: c.Default, 999: c.Default, 1000: first, 1001: second, 1002: c.Default, 40000: c.Default} {
		if n, e := Night(c, s, day); n != want || e != api.OK {
			t.Errorf("Night(%d) = %v, %d, want %v", day, n, e, want)
		}
	}
	for _, p := range []api.NdPlan{{}, {First: 7}, {First: 7, Nights: []api.SnNight{}}} {
		for _, day := range []int{0, 6, 7, 8} {
			if n, e := Night(c, api.NdState{Plan: p}, day); n != c.Default || e != api.OK {
				t.Errorf("Night(%d) = %v, %d with %v", day, n, e, p)
			}
		}
	}
	for first, day := range map[int]int{0: 0, 40000: 40000} {
		if n, e := Night(c, api.NdState{Plan: plan(first, second)}, day); n != second || e != api.OK {
			t.Errorf("Night(%d) = %v, %d", day, n, e)
		}
	}
	for _, day := range append([]int{-1, 40001}, extremes...) {
		n, e := Night(c, s, day)
		isRefused(t, "Night", n, e, api.ErrRange)
	}
}

// P8.2, P8.3: a night of a plan behind the last day that one may ask for.
func TestNightsBehindTheLastDay(t *testing.T) {
	c := setup()
	s := reached(t, c, takes(planIs(1, plan(40000, c.Core, c.Core))), takes(timeIs(1, 40001*api.SnDays+60000)), ticks(0, 50000))
	if s.Level != 0 { // the default has 60000
		t.Errorf("the level is %d", s.Level)
	}
}
