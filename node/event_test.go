package node

import (
	"math"
	"slices"
	"testing"

	"linkboy/api"
)

// refusesMessage checks that a message is refused by a node that has taken number 5 of each kind, whether it is told alone or in a run.
func refusesMessage(t *testing.T, m api.NdMessage, want api.Errno) {
	t.Helper()
	c, s := setup(), fullState()
	s.Numbers = [6]int{0, 5, 5, 5, 5, 5}
	after, e := Take(c, s, m)
	if isRefused(t, "Take", after, e, want); t.Failed() {
		t.Fatalf("the message is %v", m)
	}
	l := append(fifths(), takes(m))
	before, _, _, _ := Run(c, fifths())
	got, levels, refused, e := Run(c, l)
	if !isSame(got, before) || levels[5] != before.Level || refused[5] != want || e != api.OK {
		t.Fatalf("Run with %v = %v, %v, %v, %d, want %d", m, got, levels, refused, e, want)
	}
}

// fifths returns messages of each kind, with the number 5.
func fifths() []api.NdEvent {
	return []api.NdEvent{
		takes(timeIs(5, dayD)),
		takes(planIs(5, plan(1000, night(70000, 110000)))),
		takes(holdIs(api.NdMsgDim, 5, dayD, dayD+10, 500)),
		takes(holdIs(api.NdMsgForce, 5, dayD, dayD+10, 700)),
		takes(updateTo(5, 3)),
	}
}

// sixths returns messages of each kind, with the number 6, that are taken after the fifths.
func sixths() []api.NdMessage {
	return []api.NdMessage{
		timeIs(6, dayD+7),
		planIs(6, plan(1000, night(71000, 110000))),
		holdIs(api.NdMsgDim, 6, dayD, dayD+10, 400),
		holdIs(api.NdMsgForce, 6, dayD, dayD+10, 800),
		updateTo(6, 4),
	}
}

// strangeFields returns changes of messages of a kind that give it fields that it does not have.
func strangeFields(kind int) (all []func(m *api.NdMessage)) {
	for _, n := range append([]int{1, -1}, extremes...) {
		if kind != api.NdMsgTime {
			all = append(all, func(m *api.NdMessage) { m.Time = n })
		}
		if kind != api.NdMsgPlan {
			all = append(all, func(m *api.NdMessage) { m.Plan.First = n })
		}
		if kind != api.NdMsgDim && kind != api.NdMsgForce {
			all = append(all, func(m *api.NdMessage) { m.Hold.From = n }, func(m *api.NdMessage) { m.Hold.Until = n }, func(m *api.NdMessage) { m.Hold.Level = n })
		}
		if kind != api.NdMsgUpdate {
			all = append(all, func(m *api.NdMessage) { m.Version = n })
		}
	}
	if kind != api.NdMsgPlan {
		all = append(all, func(m *api.NdMessage) { m.Plan.Nights = []api.SnNight{{}} })
	}
	return all
}

// ownFaults returns changes of messages of a kind after which the errors of the table come, in lists of which an earlier one decides.
func ownFaults(kind int) (errors []api.Errno, faults [][]func(m *api.NdMessage)) {
	var beyond, long, wrong []func(m *api.NdMessage)
	switch kind {
	case api.NdMsgTime:
		for _, n := range append([]int{-1, 4000000001}, extremes...) {
			beyond = append(beyond, func(m *api.NdMessage) { m.Time = n })
		}
	case api.NdMsgPlan:
		for _, n := range append([]int{-1, 40001}, extremes...) {
			beyond = append(beyond, func(m *api.NdMessage) { m.Plan.First = n })
		}
		for _, n := range []int{41, 1000} {
			long = append(long, func(m *api.NdMessage) { m.Plan.Nights = slices.Repeat([]api.SnNight{night(72000, 104400)}, n) }, func(m *api.NdMessage) { m.Plan.Nights = make([]api.SnNight, n) })
		}
	case api.NdMsgUpdate:
		for _, n := range append([]int{-1, 0, 1000001}, extremes...) {
			beyond = append(beyond, func(m *api.NdMessage) { m.Version = n })
		}
	default:
		isBeyond, isWrong := noHolds()
		for _, h := range isBeyond {
			beyond = append(beyond, func(m *api.NdMessage) { m.Hold = h })
		}
		for _, h := range append(isWrong, api.NdHold{}) {
			wrong = append(wrong, func(m *api.NdMessage) { m.Hold = h })
		}
	}
	return []api.Errno{api.ErrRange, api.ErrLong, api.ErrArg}, [][]func(m *api.NdMessage){beyond, long, wrong}
}

// P8.3: each error of a message.
func TestMessagesThatAreRefused(t *testing.T) {
	for _, m := range sixths() {
		for _, kind := range append([]int{0, 6, 7, -1}, extremes...) {
			refusesMessage(t, with(m, func(m *api.NdMessage) { m.Kind = kind }), api.ErrArg)
		}
		for _, spoil := range strangeFields(m.Kind) {
			refusesMessage(t, with(m, spoil), api.ErrArg)
		}
		for _, number := range append([]int{0, -1, 1000000001}, extremes...) {
			refusesMessage(t, with(m, func(m *api.NdMessage) { m.Number = number }), api.ErrRange)
		}
		for _, number := range []int{1, 4, 5} {
			refusesMessage(t, with(m, func(m *api.NdMessage) { m.Number = number }), api.NdErrOld)
		}
		errors, faults := ownFaults(m.Kind)
		for i, list := range faults {
			for _, spoil := range list {
				refusesMessage(t, with(m, spoil), errors[i])
			}
		}
	}
}

// with returns a message after some changes.
func with(m api.NdMessage, changes ...func(m *api.NdMessage)) api.NdMessage {
	for _, change := range changes {
		change(&m)
	}
	return m
}

// P8.3: the first error of a message decides.
func TestMessagesTakeTheFirstError(t *testing.T) {
	number := func(n int) func(m *api.NdMessage) { return func(m *api.NdMessage) { m.Number = n } }
	for _, m := range sixths() {
		errors, faults := ownFaults(m.Kind)
		var own []func(m *api.NdMessage)
		for _, list := range faults {
			own = append(own, list...)
		}
		for _, strange := range strangeFields(m.Kind) {
			for _, n := range []int{0, 5, 1000000001, math.MinInt} {
				refusesMessage(t, with(m, own[0], strange, number(n)), api.ErrArg)
			}
		}
		for _, spoil := range own {
			refusesMessage(t, with(m, spoil, number(0)), api.ErrRange)
			refusesMessage(t, with(m, spoil, number(1000000001)), api.ErrRange)
			refusesMessage(t, with(m, spoil, number(5)), api.NdErrOld)
		}
		for _, spoil := range faults[1] { // a plan is too long, and its day is none
			for _, first := range faults[0] {
				refusesMessage(t, with(m, spoil, first), errors[0])
			}
		}
	}
}

// P8.3: the first night with an error decides.
func TestPlansThatAreRefused(t *testing.T) {
	core := night(72000, 104400)
	refuses := func(want api.Errno, nights ...api.SnNight) {
		t.Helper()
		refusesMessage(t, planIs(6, plan(1000, nights...)), want)
		refusesMessage(t, planIs(6, plan(40001, nights...)), api.ErrRange)
	}
	for _, none := range noNights() {
		refuses(api.ErrArg, none)
		refuses(api.ErrArg, core, core, none)
		for _, less := range lessThanCore() {
			refuses(api.ErrArg, core, none, less, core)
			refuses(api.NdErrCore, core, less, none, core)
		}
	}
	for _, less := range lessThanCore() {
		refuses(api.NdErrCore, less)
		refuses(api.NdErrCore, core, less)
		refuses(api.NdErrCore, append(slices.Repeat([]api.SnNight{core}, 39), less)...)
	}
}

// P8.3: what each message changes.
func TestMessagesThatAreTaken(t *testing.T) {
	c := setup()
	s := reached(t, c, fifths()...)
	long := slices.Repeat([]api.SnNight{night(18000, 104400)}, 40)
	for i, one := range []struct {
		m     api.NdMessage
		want  func(s *api.NdState)
		level int
	}{
		{timeIs(6, dayD+7), func(s *api.NdState) { s.Time = dayD + 7 }, 1000},
		{timeIs(1000000000, 4000000000), func(s *api.NdState) { s.Time = 4000000000 }, 1000},      // 25600 s
		{timeIs(7, 0), func(s *api.NdState) { s.Time = 0 }, 0},                                    // no day before has a night
		{planIs(7, plan(0)), func(s *api.NdState) { s.Plan = api.NdPlan{} }, 1000},                // the default
		{planIs(8, plan(999, c.Core)), func(s *api.NdState) { s.Plan = plan(999, c.Core) }, 1000}, // 86400 s
		{planIs(9, plan(40000, long...)), func(s *api.NdState) { s.Plan = plan(40000, long...) }, 1000},
		{holdIs(3, 6, dayD, dayD+14400, 0), func(s *api.NdState) { s.Dim = api.NdHold{From: dayD, Until: dayD + 14400} }, 1000}, // force is active
		{holdIs(3, 6, 0, 1, 1000), func(s *api.NdState) { s.Dim = api.NdHold{Until: 1, Level: 1000} }, 1000},
		{holdIs(4, 6, dayD-14400, dayD, 0), func(s *api.NdState) { s.Force = api.NdHold{From: dayD - 14400, Until: dayD} }, 500},
		{holdIs(4, 6, 4000000000-1, 4000000000, 0), func(s *api.NdState) { s.Force = api.NdHold{From: 4000000000 - 1, Until: 4000000000} }, 500},
		{updateTo(6, 1), func(s *api.NdState) { s.Version = 1 }, 1000},
		{updateTo(6, 1000000), func(s *api.NdState) { s.Version = 1000000 }, 1000},
	} {
		want := s
		one.want(&want)
		want.Numbers[one.m.Kind] = one.m.Number
		want.Count, want.Level = 6, one.level
		if got, e := Take(c, s, one.m); !isSame(got, want) || e != api.OK {
			t.Errorf("case %d: Take = %v, %d, want %v", i, got, e, want)
		}
	}
}

// P8.3: the level by holds, by night and by day.
func TestLevels(t *testing.T) {
	day := setup() // at the times below its clock says that it is day
	day.Core, day.Default = night(10000, 14400), night(10000, 14400)
	dim := takes(holdIs(api.NdMsgDim, 1, dayD+5000, dayD+9000, 100))
	brightDim := takes(holdIs(api.NdMsgDim, 1, dayD+5000, dayD+9000, 301))
	force := takes(holdIs(api.NdMsgForce, 1, dayD+6000, dayD+8000, 250))
	for i, one := range []struct {
		at, light      int // seconds of day D, below 0 if the time is not known
		holds          []api.NdEvent
		level, dayTime int
	}{
		{4999, 30000, []api.NdEvent{dim, force}, 1000, 0},
		{5000, 30000, []api.NdEvent{dim, force}, 300, 0},
		{5000, 30000, []api.NdEvent{brightDim, force}, 301, 0},
		{5999, 30000, []api.NdEvent{dim, force}, 300, 0},
		{6000, 30000, []api.NdEvent{dim, force}, 1000, 250},
		{7999, 30000, []api.NdEvent{dim, force}, 1000, 250},
		{8000, 30000, []api.NdEvent{dim, force}, 300, 0},
		{8999, 30000, []api.NdEvent{dim, force}, 300, 0},
		{9000, 30000, []api.NdEvent{dim, force}, 1000, 0},
		{7000, 30000, nil, 1000, 0},
		{7000, 30000, []api.NdEvent{dim}, 300, 0},
		{7000, -1, []api.NdEvent{dim, force}, 1000, 250}, // it knows the time
		{7000, -1, nil, 1000, 0},
		{-1, -1, []api.NdEvent{dim, force}, 1000, 1000}, // it is blind
		{-1, 20000, []api.NdEvent{dim, force}, 1000, 1000},
		{-1, 30000, []api.NdEvent{dim, force}, 0, 0},
		{7000, 20000, []api.NdEvent{dim}, 300, 300}, // the cell says that it is dark
		{7000, 20000, []api.NdEvent{force}, 1000, 1000},
		{7000, 20000, nil, 1000, 1000},
	} {
		l := append([]api.NdEvent{ticks(0, one.light)}, one.holds...)
		if one.at >= 0 {
			l = append(l, takes(timeIs(1, dayD+one.at)))
		}
		if s := reached(t, setup(), l...); s.Level != one.level {
			t.Errorf("case %d: the level is %d, want %d", i, s.Level, one.level)
		}
		if s := reached(t, day, l...); s.Level != one.dayTime {
			t.Errorf("case %d: the level by day is %d, want %d", i, s.Level, one.dayTime)
		}
	}
}

// P8.3: when it is night by the clock.
func TestNightsByTheClock(t *testing.T) {
	for i, one := range []struct {
		core, rest api.SnNight
		nights     []api.SnNight  // from day 10 on
		levels     map[[2]int]int // by day and second
	}{
		{night(70000, 80000), night(60000, 100000), []api.SnNight{night(65000, 90000), night(70000, 80000)}, map[[2]int]int{
			{0, 0}: 0, {0, 13599}: 0, {0, 59999}: 0, {0, 60000}: 1000, {0, 86399}: 1000,
			{1, 0}: 1000, {1, 13599}: 1000, {1, 13600}: 0,
			{10, 13599}: 1000, {10, 13600}: 0, {10, 64999}: 0, {10, 65000}: 1000, {10, 86399}: 1000,
			{11, 3599}: 1000, {11, 3600}: 0, {11, 69999}: 0, {11, 70000}: 1000, {11, 79999}: 1000, {11, 80000}: 0, {11, 86399}: 0,
			{12, 0}: 0, {12, 59999}: 0, {12, 60000}: 1000, {13, 13599}: 1000, {13, 13600}: 0,
		}},
		{night(86399, 86400), night(86399, 86400), []api.SnNight{night(0, 86400), night(86399, 172799), night(86399, 86400), night(0, 86400)}, map[[2]int]int{
			{9, 86398}: 0, {9, 86399}: 1000, {10, 0}: 1000, {10, 86399}: 1000,
			{11, 0}: 0, {11, 86398}: 0, {11, 86399}: 1000, {12, 0}: 1000, {12, 86398}: 1000, {12, 86399}: 1000,
			{13, 0}: 1000, {13, 86399}: 1000, {14, 0}: 0, {14, 86398}: 0, {14, 86399}: 1000, {15, 0}: 0,
		}},
		{night(86400, 172800), night(86400, 172800), nil, map[[2]int]int{{0, 0}: 0, {0, 86399}: 0, {1, 0}: 1000, {1, 86399}: 1000, {2, 0}: 1000}},
	} {
		c := setup()
		c.Core, c.Default = one.core, one.rest
		for at, want := range one.levels {
			s := reached(t, c, takes(planIs(1, plan(10, one.nights...))), ticks(0, 30000), takes(timeIs(1, at[0]*86400+at[1])))
			if s.Level != want {
				t.Errorf("case %d: day %d, %d s: the level is %d, want %d", i, at[0], at[1], s.Level, want)
			}
		}
	}
}

// P8.3: what the cell says after each light.
func TestCell(t *testing.T) {
	s, _ := New(setup())
	for i, one := range []struct {
		light          int
		isBroken, dark bool
		level          int
	}{
		{30000, false, false, 0}, {20001, false, false, 0}, {20000, false, true, 1000}, {20001, false, true, 1000}, {39999, false, true, 1000},
		{-1, true, true, 1000}, {30000, false, true, 1000}, {40000, false, false, 0}, {39999, false, false, 0}, {0, false, true, 1000},
		{1000000000, false, false, 0}, {-1, true, false, 1000}, {30000, false, false, 0},
	} {
		var e api.Errno
		s, e = Tick(setup(), s, 10, one.light)
		want := api.NdState{Broken: one.isBroken, Dark: one.dark, Level: one.level, Count: i + 1}
		if !isSame(s, want) || e != api.OK {
			t.Fatalf("step %d: Tick = %v, %d, want %v", i, s, e, want)
		}
	}
}

// P8.3
func TestTick(t *testing.T) {
	c := setup()
	for i, one := range []struct {
		clock                bool
		time, seconds, light int
		after                int
		e                    api.Errno
	}{
		{true, 5, 0, 0, 5, api.OK},
		{true, 5, 86400, 1000000000, 86405, api.OK},
		{true, 0, 1, -1, 1, api.OK},
		{true, 4000000000 - 10, 10, -1, 4000000000, api.OK},
		{true, 4000000000, 0, -1, 4000000000, api.OK},
		{false, 0, 86400, -1, 0, api.OK},
		{true, 4000000000 - 10, 11, -1, 0, api.ErrRange},
		{true, 4000000000, 1, 7, 0, api.ErrRange},
		{true, 5, 86401, 7, 0, api.ErrRange},
		{false, 0, 86401, 7, 0, api.ErrRange},
		{true, 5, -1, 7, 0, api.ErrRange},
		{false, 0, -1, 7, 0, api.ErrRange},
		{true, 5, 1, -2, 0, api.ErrRange},
		{false, 0, 1, 1000000001, 0, api.ErrRange},
		{true, 5, math.MinInt, 7, 0, api.ErrRange},
		{true, 5, math.MaxInt, 7, 0, api.ErrRange},
		{false, 0, math.MaxInt, 7, 0, api.ErrRange},
		{true, 5, 1, math.MinInt, 0, api.ErrRange},
		{true, 5, 1, math.MaxInt, 0, api.ErrRange},
	} {
		s := fullState()
		s.Clock, s.Time = one.clock, one.time
		got, e := Tick(c, s, one.seconds, one.light)
		if e != one.e || got.Time != one.after || got.Clock != (one.clock && one.e == api.OK) {
			t.Errorf("case %d: Tick = %v, %d", i, got, e)
		}
		if one.e != api.OK {
			isRefused(t, "Tick", got, e, one.e)
			continue
		}
		if got.Numbers != s.Numbers || got.Dim != s.Dim || got.Force != s.Force || got.Version != 7 || got.Count != 16 || len(got.Plan.Nights) != 2 {
			t.Errorf("case %d: Tick changes %v to %v", i, s, got)
		}
	}
}

// P8.3
func TestCut(t *testing.T) {
	s := fullState()
	s.Broken = false
	want := s
	want.Clock, want.Time, want.Broken, want.Dark, want.Level, want.Count = false, 0, true, false, 1000, 16
	if got, e := Cut(setup(), s); !isSame(got, want) || e != api.OK {
		t.Errorf("Cut = %v, %d, want %v", got, e, want)
	}
	if got, e := Tick(setup(), want, 5, 30000); got.Dark || got.Level != 0 || e != api.OK {
		t.Errorf("Tick after a cut = %v, %d", got, e)
	}
}

// P8.3: no more events can be counted; other errors come before.
func TestTooManyEvents(t *testing.T) {
	c, s := setup(), fullState()
	events := []api.NdEvent{ticks(1, 7), {Kind: api.NdCut}}
	for _, m := range sixths() {
		events = append(events, takes(m))
	}
	for _, v := range events {
		s.Count = 1000000000 - 1
		if got, e := do(c, s, v); got.Count != 1000000000 || e != api.OK {
			t.Errorf("%v: %v, %d", v, got, e)
		}
		s.Count = 1000000000
		got, e := do(c, s, v)
		isRefused(t, "an event", got, e, api.ErrLong)
	}
	s.Time = 4000000000
	for _, one := range []struct {
		v api.NdEvent
		e api.Errno
	}{
		{ticks(1, 7), api.ErrRange}, {ticks(-1, 7), api.ErrRange}, {ticks(0, -2), api.ErrRange},
		{takes(api.NdMessage{}), api.ErrArg}, {takes(updateTo(0, 1)), api.ErrRange}, {takes(updateTo(5, 1)), api.NdErrOld},
		{takes(updateTo(6, 0)), api.ErrRange}, {takes(planIs(6, plan(1000, night(72001, 104400)))), api.NdErrCore},
	} {
		got, e := do(c, s, one.v)
		isRefused(t, "a wrong event", got, e, one.e)
	}
}

// P8.4
func TestRun(t *testing.T) {
	c := setup()
	for _, l := range [][]api.NdEvent{nil, {}} {
		s, levels, refused, e := Run(c, l)
		if first, _ := New(c); !isSame(s, first) || len(levels) != 0 || len(refused) != 0 || e != api.OK {
			t.Errorf("Run without events = %v, %v, %v, %d", s, levels, refused, e)
		}
	}
	message := updateTo(1, 9)
	l := []api.NdEvent{
		{Kind: api.NdTick, Message: api.NdMessage{Kind: 77, Number: -1}, Seconds: 5, Light: 50000},
		{Kind: api.NdTake, Message: message, Seconds: -5, Light: -5},
		{Kind: api.NdTick, Message: message, Seconds: -1},
		{Message: message},
		{Kind: 4, Message: message},
		{Kind: -1, Message: message},
		{Kind: math.MaxInt},
		{Kind: api.NdTake, Message: message},
		{Kind: api.NdCut, Message: message, Seconds: -5, Light: -5},
		{Kind: api.NdTake},
	}
	s, levels, refused, e := Run(c, l)
	want := api.NdState{Numbers: [6]int{5: 1}, Version: 9, Broken: true, Level: 1000, Count: 3}
	if !isSame(s, want) || e != api.OK {
		t.Errorf("Run = %v, %d, want %v", s, e, want)
	}
	if !slices.Equal(levels, []int{0, 0, 0, 0, 0, 0, 0, 0, 1000, 1000}) {
		t.Errorf("Run: the levels are %v", levels)
	}
	if !slices.Equal(refused, []api.Errno{0, 0, api.ErrRange, api.ErrArg, api.ErrArg, api.ErrArg, api.ErrArg, api.NdErrOld, 0, api.ErrArg}) {
		t.Errorf("Run: refused are %v", refused)
	}
}

// P8.4
func TestRunTakesSoManyEvents(t *testing.T) {
	l := slices.Repeat([]api.NdEvent{ticks(1, 50000)}, 300)
	if s, levels, refused, e := Run(setup(), l); s.Count != 300 || len(levels) != 300 || len(refused) != 300 || e != api.OK {
		t.Errorf("Run = %v, %d, %d, %d", s, len(levels), len(refused), e)
	}
	for _, l := range [][]api.NdEvent{append(l, ticks(1, 50000)), make([]api.NdEvent, 301), make([]api.NdEvent, 1000)} {
		s, levels, refused, e := Run(setup(), l)
		isRefused(t, "Run", s, e, api.ErrLong)
		isRefused(t, "Run", levels, e, api.ErrLong)
		isRefused(t, "Run", refused, e, api.ErrLong)
	}
}
