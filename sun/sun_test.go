package sun

import (
	"testing"

	"linkboy/api"
)

// horizon is the altitude of the examples.
var horizon = api.Encl{Lo: -900000, Hi: -800000}

// north returns a city at so many degrees, at longitude 0.
func north(degrees int) api.SnCity { return api.SnCity{Lat: degrees * api.Degree, Altitude: horizon} }

// badCities returns cities that Check refuses.
func badCities() (all []api.SnCity) {
	add := func(spoil func(c *api.SnCity)) {
		c := north(50)
		spoil(&c)
		all = append(all, c)
	}
	for _, sign := range []int{-1, 1} {
		add(func(c *api.SnCity) { c.Lat = sign * 88000001 })
		add(func(c *api.SnCity) { c.Lon = sign * 180000001 })
		add(func(c *api.SnCity) { c.Zone = sign * 50401 })
	}
	for _, x := range []api.Encl{{Lo: -18000001, Hi: -800000}, {Lo: -18000001, Hi: -18000001}, {Lo: -900000, Hi: 1}, {Lo: 1, Hi: 1}, {Lo: -800000, Hi: -800001}, {Lo: 0, Hi: -18000000}} {
		add(func(c *api.SnCity) { c.Altitude = x })
	}
	for _, n := range extremes {
		add(func(c *api.SnCity) { c.Lat = n })
		add(func(c *api.SnCity) { c.Lon = n })
		add(func(c *api.SnCity) { c.Zone = n })
		add(func(c *api.SnCity) { c.Altitude.Lo = n })
		add(func(c *api.SnCity) { c.Altitude.Hi = n })
		add(func(c *api.SnCity) { c.Altitude = api.Encl{Lo: n, Hi: n} })
	}
	return all
}

// edgeCities returns cities at the ends of what is allowed.
func edgeCities() (all []api.SnCity) {
	for _, lat := range []int{-88000000, 0, 88000000} {
		for _, lon := range []int{-180000000, 0, 180000000} {
			for _, zone := range []int{-50400, 0, 50400} {
				for _, x := range []api.Encl{{}, {Lo: -18000000, Hi: 0}, {Lo: -18000000, Hi: -18000000}, horizon} {
					all = append(all, api.SnCity{Lat: lat, Lon: lon, Zone: zone, Altitude: x})
				}
			}
		}
	}
	return all
}

// P7.2, and the errors of P7.2 to P7.4 for cities that Check refuses.
func TestCheck(t *testing.T) {
	for _, c := range edgeCities() {
		if e := Check(c); e != api.OK {
			t.Errorf("Check(%v) = %d", c, e)
		}
	}
	for _, c := range badCities() {
		if e := Check(c); e != api.ErrRange {
			t.Errorf("Check(%v) = %d", c, e)
		}
		for _, n := range []int{100, -1, 1 << 40} {
			refusesMoment(t, c, n)
			refusesDay(t, c, n)
		}
	}
}

// refusesMoment checks that a city, or a moment, is refused.
func refusesMoment(t *testing.T, c api.SnCity, moment int) {
	t.Helper()
	if x, e := High(c, moment); x != (api.Encl{}) || e != api.ErrRange {
		t.Errorf("High(%v, %d) = %v, %d", c, moment, x, e)
	}
}

// refusesDay checks that all functions refuse a city, or a day.
func refusesDay(t *testing.T, c api.SnCity, day int) {
	t.Helper()
	if kind, at, e := Set(c, day); kind != 0 || at != (api.Encl{}) || e != api.ErrRange {
		t.Errorf("Set(%v, %d) = %d, %v, %d", c, day, kind, at, e)
	}
	if kind, at, e := Rise(c, day); kind != 0 || at != (api.Encl{}) || e != api.ErrRange {
		t.Errorf("Rise(%v, %d) = %d, %v, %d", c, day, kind, at, e)
	}
	if x, e := Night(c, day); x != (api.SnNight{}) || e != api.ErrRange {
		t.Errorf("Night(%v, %d) = %v, %d", c, day, x, e)
	}
	refusesHours(t, c, day, 1)
}

func refusesHours(t *testing.T, c api.SnCity, day, nights int) {
	t.Helper()
	if n, e := Hours(c, day, nights); n != 0 || e != api.ErrRange {
		t.Errorf("Hours(%v, %d, %d) = %d, %d", c, day, nights, n, e)
	}
}

// P7.2
func TestSpans(t *testing.T) {
	last := 86400 * 40002
	for _, span := range [][2]int{{0, 0}, {-172800, -172800}, {-172800, 0}, {last, last}, {last - 172800, last}, {5, 172805}} {
		sine, equation := wantSun(span[0], span[1])
		if x, y, e := Sun(span[0], span[1]); x != sine || y != equation || e != api.OK {
			t.Errorf("Sun(%v) = %v, %v, %d, want %v, %v", span, x, y, e, sine, equation)
		}
	}
	bad := [][2]int{{1, 0}, {0, 172801}, {-172801, -172801}, {-172801, 0}, {last, last + 1}, {last + 1, last + 1}}
	for _, n := range extremes {
		bad = append(bad, [2]int{n, 0}, [2]int{0, n}, [2]int{n, n}, [2]int{n, -n}, [2]int{-n, n})
	}
	for _, span := range bad {
		if x, y, e := Sun(span[0], span[1]); x != (api.Encl{}) || y != (api.Encl{}) || e != api.ErrRange {
			t.Errorf("Sun(%v) = %v, %v, %d", span, x, y, e)
		}
	}
}

// P7.2
func TestMoments(t *testing.T) {
	last := 86400 * 40002
	for _, m := range []int{-172800, 0, 1, last} {
		for _, c := range edgeCities() {
			if x, e := High(c, m); x != wantHigh(c, m) || e != api.OK {
				t.Errorf("High(%v, %d) = %v, %d, want %v", c, m, x, e, wantHigh(c, m))
			}
		}
	}
	for _, m := range append([]int{-172801, last + 1}, extremes...) {
		refusesMoment(t, north(50), m)
	}
}

// P7.3: the examples.
func TestSetAndRise(t *testing.T) {
	for _, c := range []struct{ lat, day, kind int }{
		{80, 355, api.SnDark}, {80, 172, api.SnLight}, {-80, 355, api.SnLight}, {-80, 172, api.SnDark}, {66, 162, api.SnMaybe}, {70, 329, api.SnMaybe},
	} {
		for _, what := range []func(api.SnCity, int) (int, api.Encl, api.Errno){Set, Rise} {
			if kind, at, e := what(north(c.lat), c.day); kind != c.kind || at != (api.Encl{}) || e != api.OK {
				t.Errorf("%d degrees north, day %d: %d, %v, %d, want %d", c.lat, c.day, kind, at, e, c.kind)
			}
		}
	}
	kind, at, e := Set(north(0), 79)
	if kind != api.SnPasses || at.Lo < 65300 || at.Hi > 65600 || at.Lo > at.Hi || e != api.OK {
		t.Errorf("Set = %d, %v, %d", kind, at, e)
	}
}

// P7.3: where the cosine of the hour angle is just 1, or -1.
func TestKinds(t *testing.T) {
	one := api.One
	for x, want := range map[api.Encl]int{
		{Lo: one + 1, Hi: one + 1}: api.SnDark, {Lo: one, Hi: one + 1}: api.SnMaybe, {Lo: one, Hi: one}: api.SnPasses,
		{Lo: -one - 1, Hi: -one - 1}: api.SnLight, {Lo: -one - 1, Hi: -one}: api.SnMaybe, {Lo: -one, Hi: -one}: api.SnPasses,
		{Lo: -one, Hi: one}: api.SnPasses, {Lo: -one - 1, Hi: one + 1}: api.SnMaybe, {Lo: 0, Hi: 0}: api.SnPasses,
	} {
		if kind := kindOf(x); kind != want {
			t.Errorf("kindOf(%v) = %d, want %d", x, kind, want)
		}
	}
}

// P7.3: when the sun rises and sets at Greenwich on the longest and the shortest day, within about a minute.
func TestGreenwich(t *testing.T) {
	c := api.SnCity{Lat: 51477000, Zone: 3600, Altitude: api.Encl{Lo: -840000, Hi: -820000}}
	for _, want := range []struct{ year, month, day, rise, set int }{
		{2024, 6, 20, 4*60 + 43, 21*60 + 21},
		{2024, 12, 21, 9*60 + 3, 16*60 + 53},
	} {
		day, _ := Day(want.year, want.month, want.day)
		for i, minutes := range []int{want.rise, want.set} {
			kind, at, e := []func(api.SnCity, int) (int, api.Encl, api.Errno){Rise, Set}[i](c, day)
			if kind != api.SnPasses || at.Hi < 60*minutes-60 || at.Lo > 60*minutes+60 || at.Hi-at.Lo > 60 || e != api.OK {
				t.Errorf("%v: %d, %v, %d, want about %d", want, kind, at, e, 60*minutes)
			}
		}
	}
}

// P7.3, P7.4: the first and the last days.
func TestDaysOfTimes(t *testing.T) {
	for _, c := range edgeCities() {
		for _, day := range []int{0, 40000} {
			compareTimes(t, c, day)
		}
		for _, day := range []int{0, 39999} {
			if n, e := Night(c, day); n != wantNight(c, day) || e != api.OK {
				t.Errorf("Night(%v, %d) = %v, %d, want %v", c, day, n, e, wantNight(c, day))
			}
		}
	}
	for _, day := range append([]int{-1, 40001}, extremes...) {
		refusesDay(t, north(50), day)
	}
	if n, e := Night(north(50), 40000); n != (api.SnNight{}) || e != api.ErrRange {
		t.Errorf("Night(40000) = %v, %d", n, e)
	}
}

// P7.4: the examples.
func TestNight(t *testing.T) {
	for day, want := range map[int]api.SnNight{355: {On: 42000, Off: 130800}, 172: {}} {
		if n, e := Night(north(80), day); n != want || e != api.OK {
			t.Errorf("Night(%d) = %v, %d, want %v", day, n, e, want)
		}
	}
}

// P7.4
func TestHours(t *testing.T) {
	c := north(65)
	for _, span := range [][2]int{{0, 0}, {40000, 0}, {0, 1}, {355, 10}, {39999, 1}, {39600, 400}, {0, 400}} {
		want := 0
		for day := span[0]; day < span[0]+span[1]; day++ {
			n := wantNight(c, day)
			want += n.Off - n.On
		}
		if n, e := Hours(c, span[0], span[1]); n != want || e != api.OK {
			t.Errorf("Hours(%v) = %d, %d, want %d", span, n, e, want)
		}
	}
	for _, span := range [][2]int{{-1, 0}, {-1, 10}, {0, -1}, {0, 401}, {40001, 0}, {40000, 1}, {39601, 400}, {40001, -1}} {
		refusesHours(t, c, span[0], span[1])
	}
	for _, n := range extremes {
		refusesHours(t, c, n, 1)
		refusesHours(t, c, 100, n)
		refusesHours(t, c, n, n)
		refusesHours(t, c, n, -n)
	}
}
