package sun

import (
	"math/rand"
	"slices"
	"testing"

	"linkboy/api"
)

// samples returns samples from times and lights, one after the other.
func samples(numbers ...int) (l []api.SnSample) {
	for pair := range slices.Chunk(numbers, 2) {
		l = append(l, api.SnSample{Time: pair[0], Light: pair[1]})
	}
	return l
}

// turns returns switches at times, the first of which switches on.
func turns(times ...int) (l []api.SnSwitch) {
	for i, at := range times {
		l = append(l, api.SnSwitch{Time: at, On: i%2 == 0})
	}
	return l
}

// P7.5: the example, and others.
func TestCell(t *testing.T) {
	slow := api.SnCell{On: 10, Off: 20, OnAfter: 60}
	quick := api.SnCell{On: 10, Off: 20}
	for i, c := range []struct {
		cell api.SnCell
		l    []api.SnSample
		want []api.SnSwitch
	}{
		{slow, samples(0, 30, 100, 8, 150, 12, 200, 9, 300, 25, 400, 5), turns(260, 300)},
		{slow, nil, nil},
		{slow, []api.SnSample{}, nil},
		{quick, samples(7, 10), turns(7)},        // from the first sample on
		{quick, samples(7, 11, 9, 10), turns(9)}, // up to the last one
		{quick, samples(7, 20, 9, 11, 11, 10, 12, 20), turns(11, 12)},
		{quick, samples(0, 5, 1, 19, 2, 5, 3, 11, 4, 20, 5, 30), turns(0, 4)}, // between both it stays
		{slow, samples(5, 0, 65, 0), turns(65)},
		{slow, samples(5, 0, 64, 0), nil},
		{slow, samples(5, 0, 65, 11), nil}, // the light is that of the last sample from its time on
		{slow, samples(5, 0, 66, 11), turns(65)},
		{slow, samples(0, 0, 20, 10, 40, 3, 61, 12), turns(60)}, // one stretch of several samples
		{api.SnCell{On: 0, Off: 1, OnAfter: 2, OffAfter: 3}, samples(0, 0, 3, 1, 6, 0, 10, 1, 13, 0, 16, 1, 20, 0, 21, 1), turns(2, 19)},
		{api.SnCell{On: 0, Off: 1000000000, OnAfter: 3600, OffAfter: 3600}, samples(0, 0, 3601, 1000000000, 1000000, 1000000000), turns(3600, 7201)},
	} {
		if got, e := Cell(c.cell, c.l); !slices.Equal(got, c.want) || e != api.OK {
			t.Errorf("case %d: Cell = %v, %d, want %v", i, got, e, c.want)
		}
	}
}

// lightAt returns the light at a time, if it is known.
func lightAt(l []api.SnSample, at int) (light int, isKnown bool) {
	if len(l) == 0 || at < l[0].Time || at > l[len(l)-1].Time {
		return 0, false
	}
	for _, s := range l {
		if s.Time <= at {
			light = s.Light
		}
	}
	return light, true
}

// wantCell tries each time, and for each one all times before for which the light must last.
func wantCell(c api.SnCell, l []api.SnSample) (all []api.SnSwitch) {
	lasts := func(from, until int, enough func(light int) bool) bool {
		for at := from; at <= until; at++ {
			if light, isKnown := lightAt(l, at); !isKnown || !enough(light) {
				return false
			}
		}
		return true
	}
	isOn := false
	for at := 0; len(l) > 0 && at <= l[len(l)-1].Time; at++ {
		if !isOn && lasts(at-c.OnAfter, at, func(light int) bool { return light <= c.On }) {
			isOn = true
			all = append(all, api.SnSwitch{Time: at, On: true})
		}
		if isOn && lasts(at-c.OffAfter, at, func(light int) bool { return light >= c.Off }) {
			isOn = false
			all = append(all, api.SnSwitch{Time: at, On: false})
		}
	}
	return all
}

func randomSamples(r *rand.Rand) (l []api.SnSample) {
	at := r.Intn(5)
	for range r.Intn(20) {
		l = append(l, api.SnSample{Time: at, Light: r.Intn(12)})
		at += 1 + r.Intn(8)
	}
	return l
}

func randomCell(r *rand.Rand) api.SnCell {
	on := r.Intn(9)
	return api.SnCell{On: on, Off: on + 1 + r.Intn(4), OnAfter: r.Intn(12), OffAfter: r.Intn(12)}
}

// P7.5: for random samples.
func TestRandomCells(t *testing.T) {
	r := rand.New(rand.NewSource(705))
	several := 0
	for range 5000 {
		c, l := randomCell(r), randomSamples(r)
		want := wantCell(c, l)
		if got, e := Cell(c, l); !slices.Equal(got, want) || e != api.OK {
			t.Fatalf("Cell(%v, %v) = %v, %d, want %v", c, l, got, e, want)
		}
		if len(want) > 2 {
			several++
		}
	}
	if several < 300 {
		t.Errorf("%d cells switch more than twice", several)
	}
}

// P7.12
func TestSwitchingAlternates(t *testing.T) {
	r := rand.New(rand.NewSource(712))
	again, later := 0, 0
	for range 10000 {
		c, l := randomCell(r), randomSamples(r)
		all, _ := Cell(c, l)
		for i, s := range all {
			if s.On != (i%2 == 0) || i > 0 && s.Time <= all[i-1].Time {
				t.Fatalf("Cell(%v, %v) = %v", c, l, all)
			}
			if s.On && i > 0 {
				again++
				wasBright, isDark := false, false
				for at := all[i-2].Time; at <= s.Time; at++ {
					light, _ := lightAt(l, at)
					wasBright = wasBright || light >= c.Off
					isDark = wasBright && light <= c.On
				}
				if !isDark {
					t.Fatalf("Cell(%v, %v) = %v: not bright, and then dark, before %d", c, l, all, s.Time)
				}
			}
		}
		slower := c
		slower.On = r.Intn(c.On + 1)
		slower.OnAfter += r.Intn(4)
		then, _ := Cell(slower, l)
		if len(then) > 0 && (len(all) == 0 || then[0].Time < all[0].Time) {
			t.Fatalf("%v: %v switches at %v, %v at %v", l, c, all, slower, then)
		}
		if len(then) > 0 && then[0].Time > all[0].Time {
			later++
		}
	}
	if again < 500 || later < 500 {
		t.Errorf("%d cells were switched on again, %d later", again, later)
	}
}

// P7.5
func TestCellsThatAreRefused(t *testing.T) {
	good, light := api.SnCell{On: 10, Off: 20, OnAfter: 3600, OffAfter: 3600}, samples(0, 30, 100, 8)
	refuses := func(c api.SnCell, l []api.SnSample, want api.Errno) {
		t.Helper()
		if got, e := Cell(c, l); len(got) != 0 || e != want {
			t.Errorf("Cell(%v, %v) = %v, %d, want %d", c, l, got, e, want)
		}
	}
	long := make([]api.SnSample, 301)
	wrong := []api.SnCell{{On: 20, Off: 20}, {On: 21, Off: 20}, {On: -1, Off: 20}, {On: 10, Off: 1000000001}, {On: 10, Off: 20, OnAfter: -1}, {On: 10, Off: 20, OnAfter: 3601}, {On: 10, Off: 20, OffAfter: -1}, {On: 10, Off: 20, OffAfter: 3601}}
	for _, n := range extremes {
		wrong = append(wrong, api.SnCell{On: n, Off: n}, api.SnCell{On: 10, Off: 20, OnAfter: n}, api.SnCell{On: 10, Off: 20, OffAfter: n})
		refuses(good, samples(0, n), api.ErrRange)
		refuses(good, samples(n, 0), api.ErrRange)
		refuses(good, samples(0, 30, n, 8), api.ErrRange)
	}
	for _, c := range wrong {
		refuses(c, light, api.ErrRange)
		refuses(c, long, api.ErrRange)
	}
	refuses(good, long, api.ErrLong)
	for _, l := range [][]api.SnSample{samples(-1, 0), samples(1000001, 0), samples(0, -1), samples(0, 1000000001), samples(0, 0, 0, 0), samples(5, 0, 4, 0), samples(0, 0, 5, 0, 5, 1), samples(0, 0, 5, 0, 6, -1)} {
		refuses(good, l, api.ErrRange)
	}
}

// P7.5: what is allowed.
func TestCellsThatAreTaken(t *testing.T) {
	most := api.SnCell{On: 999999999, Off: 1000000000, OnAfter: 3600, OffAfter: 3600}
	for _, c := range []api.SnCell{most, {On: 0, Off: 1}} {
		var l []api.SnSample
		for i := range 300 {
			l = append(l, api.SnSample{Time: 1000000 - 299 + i, Light: 1000000000 * (i % 2)})
		}
		want := 0
		if c.OnAfter == 0 {
			want = 300
		}
		if got, e := Cell(c, l); len(got) != want || e != api.OK {
			t.Errorf("Cell(%v) = %v, %d", c, got, e)
		}
	}
}
