package node

import (
	"testing"

	"linkboy/api"
)

// setFaults returns what makes set-ups wrong, in lists of which an earlier one decides.
func setFaults() (errors []api.Errno, faults [][]func(c *api.NdSet)) {
	var beyond, wrong []func(c *api.NdSet)
	for _, n := range append([]int{0, -1}, extremes...) {
		beyond = append(beyond, func(c *api.NdSet) { c.Floor = n }, func(c *api.NdSet) { c.Hold = n })
	}
	for _, n := range append([]int{-1, 1000000001}, extremes...) {
		beyond = append(beyond, func(c *api.NdSet) { c.CellOn = n }, func(c *api.NdSet) { c.CellOff = n })
	}
	beyond = append(beyond, func(c *api.NdSet) { c.Floor = 1001 }, func(c *api.NdSet) { c.Hold = 86401 })
	for _, n := range noNights() {
		wrong = append(wrong, func(c *api.NdSet) { c.Core = n }, func(c *api.NdSet) { c.Default = n })
	}
	for _, n := range lessThanCore() {
		wrong = append(wrong, func(c *api.NdSet) { c.Default = n })
	}
	for _, lights := range [][2]int{{7, 7}, {8, 7}, {0, 0}, {1000000000, 0}, {1000000000, 1000000000}} {
		wrong = append(wrong, func(c *api.NdSet) { c.CellOn, c.CellOff = lights[0], lights[1] })
	}
	return []api.Errno{api.ErrRange, api.ErrArg}, [][]func(c *api.NdSet){beyond, wrong}
}

// noNights returns pairs of times that are no nights.
func noNights() []api.SnNight {
	l := []api.SnNight{{}, night(-1, 86399), night(86401, 100000), night(72000, 72000), night(72000, 71999), night(0, 86401), night(86400, 172801), night(72000, 158401), night(50000, 136401)}
	for _, n := range extremes {
		l = append(l, night(n, 104400), night(72000, n), night(n, n))
	}
	return l
}

// lessThanCore returns nights that do not have all of the core of the examples.
func lessThanCore() []api.SnNight {
	return []api.SnNight{night(72001, 104400), night(72000, 104399), night(72001, 104399), night(0, 86400), night(86400, 172800), night(0, 10), night(72000, 72001), night(80000, 90000)}
}

// refusesSet checks that all functions with a set-up return its error, whatever the other arguments are.
func refusesSet(t *testing.T, c api.NdSet, want api.Errno) {
	t.Helper()
	if e := Check(c); e != want {
		t.Errorf("Check(%v) = %d, want %d", c, e, want)
	}
	s, e := New(c)
	isRefused(t, "New", s, e, want)
	for _, s := range []api.NdState{{}, {Count: -1}} {
		refusesState(t, c, s, want)
	}
	for _, n := range []int{0, 1, 301} {
		s, levels, refused, e := Run(c, make([]api.NdEvent, n))
		isRefused(t, "Run", s, e, want)
		isRefused(t, "Run", levels, e, want)
		isRefused(t, "Run", refused, e, want)
	}
}

// refusesState checks that all functions with a state return its error, or that of its set-up, whatever the other arguments are.
func refusesState(t *testing.T, c api.NdSet, s api.NdState, want api.Errno) {
	t.Helper()
	if e := CheckState(c, s); e != want {
		t.Errorf("CheckState(%v, %v) = %d, want %d", c, s, e, want)
	}
	for _, n := range []int{5, -1} {
		night, e := Night(c, s, n)
		isRefused(t, "Night", night, e, want)
		after, e := Take(c, s, timeIs(n, 5))
		isRefused(t, "Take", after, e, want)
		after, e = Tick(c, s, n, 5)
		isRefused(t, "Tick", after, e, want)
	}
	after, e := Cut(c, s)
	isRefused(t, "Cut", after, e, want)
}

// P8.1
func TestSetsThatAreRefused(t *testing.T) {
	errors, faults := setFaults()
	for i, list := range faults {
		for _, spoil := range list {
			c := setup()
			spoil(&c)
			refusesSet(t, c, errors[i])
		}
	}
	for _, first := range faults[0] {
		for _, second := range faults[1] {
			c := setup()
			second(&c)
			first(&c)
			if e := Check(c); e != api.ErrRange {
				t.Errorf("Check(%v) = %d", c, e)
			}
		}
	}
}

// P8.1
func TestSetsThatAreTaken(t *testing.T) {
	for i, change := range []func(c *api.NdSet){
		func(c *api.NdSet) {},
		func(c *api.NdSet) { c.Floor, c.Hold = 1, 1 },
		func(c *api.NdSet) { c.Floor, c.Hold = 1000, 86400 },
		func(c *api.NdSet) { c.CellOn, c.CellOff = 0, 1 },
		func(c *api.NdSet) { c.CellOn, c.CellOff = 999999999, 1000000000 },
		func(c *api.NdSet) { c.Core = c.Default },
		func(c *api.NdSet) { c.Default = c.Core },
		func(c *api.NdSet) { c.Core = night(57600, 57601) },
		func(c *api.NdSet) { c.Core = night(80000, 118800) },
		func(c *api.NdSet) { c.Core, c.Default = night(0, 1), night(0, 86400) },
		func(c *api.NdSet) { c.Core, c.Default = night(86400, 86401), night(86400, 172800) },
		func(c *api.NdSet) { c.Core, c.Default = night(86399, 86400), night(0, 86400) },
	} {
		c := setup()
		change(&c)
		if e := Check(c); e != api.OK {
			t.Errorf("case %d: Check = %d", i, e)
		}
		if s, e := New(c); s.Level != 1000 || !s.Broken || e != api.OK {
			t.Errorf("case %d: New = %v, %d", i, s, e)
		}
	}
}

// fullState returns a state without a zero.
func fullState() api.NdState {
	return api.NdState{
		Numbers: [6]int{0, 1, 2, 3, 4, 5}, Clock: true, Time: dayD, Plan: plan(999, night(60000, 110000), night(72000, 104400)),
		Dim: api.NdHold{From: 1, Until: 14401, Level: 1}, Force: api.NdHold{From: dayD, Until: dayD + 1, Level: 1000},
		Version: 7, Broken: true, Dark: true, Level: 300, Count: 15,
	}
}

// noHolds returns holds with a number that is not in its range, and some that last too long, or not at all.
func noHolds() (beyond, wrong []api.NdHold) {
	for _, n := range append([]int{-1, 4000000001}, extremes...) {
		beyond = append(beyond, api.NdHold{From: n, Until: 10, Level: 5}, api.NdHold{From: 5, Until: n, Level: 5}, api.NdHold{From: n, Until: n, Level: 5})
	}
	for _, n := range append([]int{-1, 1001}, extremes...) {
		beyond = append(beyond, api.NdHold{From: 5, Until: 10, Level: n}, api.NdHold{From: 10, Until: 5, Level: n})
	}
	beyond = append(beyond, api.NdHold{From: 4000000000, Until: 4000000001})
	wrong = []api.NdHold{{From: 10, Until: 10}, {From: 10, Until: 9}, {From: 10, Until: 14411}, {From: 0, Until: 14401}, {Level: 1}, {From: 1}, {From: 4000000000, Until: 4000000000}, {From: 0, Until: 4000000000}, {From: 4000000000}}
	return beyond, wrong
}

// P8.1
func TestStatesThatAreRefused(t *testing.T) {
	refuses := func(spoil func(s *api.NdState)) {
		t.Helper()
		s := fullState()
		spoil(&s)
		refusesState(t, setup(), s, api.ErrForm)
	}
	for _, n := range append([]int{-1, 4000000001}, extremes...) {
		refuses(func(s *api.NdState) { s.Time = n })
		refuses(func(s *api.NdState) { s.Clock, s.Time = false, n })
		refuses(func(s *api.NdState) { s.Plan.First = n })
		refuses(func(s *api.NdState) { s.Plan = api.NdPlan{First: n} })
		refuses(func(s *api.NdState) { s.Numbers[0] = n })
		for kind := range 6 {
			refuses(func(s *api.NdState) { s.Numbers[kind] = n })
		}
		refuses(func(s *api.NdState) { s.Count = n })
		refuses(func(s *api.NdState) { s.Version = n })
		refuses(func(s *api.NdState) { s.Level = n })
	}
	for kind := range 6 {
		refuses(func(s *api.NdState) { s.Numbers[kind] = 1000000001 })
	}
	refuses(func(s *api.NdState) { s.Numbers[0] = 1 })
	refuses(func(s *api.NdState) { s.Clock, s.Time = false, 1 })
	refuses(func(s *api.NdState) { s.Version = 1000001 })
	refuses(func(s *api.NdState) { s.Level = 1001 })
	refuses(func(s *api.NdState) { s.Count = 1000000001 })
	refuses(func(s *api.NdState) { s.Plan.First = 40001 })
	refuses(func(s *api.NdState) { s.Plan.Nights = make([]api.SnNight, 41) })
	for i := range 2 {
		for _, n := range append(noNights(), lessThanCore()...) {
			refuses(func(s *api.NdState) { s.Plan.Nights[i] = n })
		}
	}
	refuses(func(s *api.NdState) {
		s.Plan.Nights = nil
		for range 41 {
			s.Plan.Nights = append(s.Plan.Nights, night(72000, 104400))
		}
	})
	beyond, wrong := noHolds()
	for _, h := range append(beyond, wrong...) {
		refuses(func(s *api.NdState) { s.Dim = h })
		refuses(func(s *api.NdState) { s.Force = h })
	}
}

// P8.1
func TestStatesThatAreTaken(t *testing.T) {
	for i, change := range []func(s *api.NdState){
		func(s *api.NdState) {},
		func(s *api.NdState) { *s = api.NdState{} },
		func(s *api.NdState) {
			s.Numbers = [6]int{0, 1000000000, 1000000000, 1000000000, 1000000000, 1000000000}
		},
		func(s *api.NdState) { s.Time = 0 },
		func(s *api.NdState) { s.Time = 4000000000 },
		func(s *api.NdState) { s.Clock, s.Time = false, 0 },
		func(s *api.NdState) { s.Plan = api.NdPlan{First: 40000} },
		func(s *api.NdState) { s.Plan.First = 0 },
		func(s *api.NdState) {
			for range 38 {
				s.Plan.Nights = append(s.Plan.Nights, night(18000, 104400))
			}
		},
		func(s *api.NdState) { s.Dim, s.Force = api.NdHold{}, api.NdHold{} },
		func(s *api.NdState) { s.Dim, s.Force = s.Force, s.Dim },
		func(s *api.NdState) { s.Dim = api.NdHold{Until: 1} },
		func(s *api.NdState) { s.Force = api.NdHold{From: 4000000000 - 14400, Until: 4000000000} },
		func(s *api.NdState) { s.Version, s.Level, s.Count = 1000000, 1000, 1000000000 },
		func(s *api.NdState) { s.Version, s.Level, s.Count = 0, 0, 0 },
		func(s *api.NdState) { s.Broken = false },
		func(s *api.NdState) { s.Dark = false },
	} {
		s := fullState()
		change(&s)
		if e := CheckState(setup(), s); e != api.OK {
			t.Errorf("case %d: CheckState(%v) = %d", i, s, e)
		}
	}
}
