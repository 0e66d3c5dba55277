package sun

import (
	"math/rand"
	"testing"

	"linkboy/api"
)

// randomCity returns a city, often one in which the sun does not always set.
func randomCity(r *rand.Rand) api.SnCity {
	lat := r.Intn(2*api.MaxSnLat+1) - api.MaxSnLat
	if r.Intn(2) == 0 {
		lat = (60*api.Degree + r.Intn(28*api.Degree)) * (1 - 2*r.Intn(2))
	}
	hi := -r.Intn(18*api.Degree + 1)
	lo := hi - r.Intn([]int{1, 200000, 5 * api.Degree}[r.Intn(3)])
	return api.SnCity{
		Lat:      lat,
		Lon:      r.Intn(360*api.Degree+1) - 180*api.Degree,
		Zone:     r.Intn(2*api.MaxSnZone+1) - api.MaxSnZone,
		Altitude: api.Encl{Lo: max(lo, -18*api.Degree), Hi: hi},
	}
}

// someDay returns a day before and after which there are others.
func someDay(r *rand.Rand) int { return 1 + r.Intn(39998) }

func compareTimes(t *testing.T, c api.SnCity, day int) (kinds [2]int) {
	t.Helper()
	set, dusk := wantTimes(c, day, true)
	if kind, at, e := Set(c, day); kind != set || at != dusk || e != api.OK {
		t.Fatalf("Set(%v, %d) = %d, %v, %d, want %d, %v", c, day, kind, at, e, set, dusk)
	}
	rise, dawn := wantTimes(c, day, false)
	if kind, at, e := Rise(c, day); kind != rise || at != dawn || e != api.OK {
		t.Fatalf("Rise(%v, %d) = %d, %v, %d, want %d, %v", c, day, kind, at, e, rise, dawn)
	}
	return [2]int{set, rise}
}

// P7.3, P7.4: for random cities.
func TestRandomTimes(t *testing.T) {
	r := rand.New(rand.NewSource(703))
	kinds := map[[2]int]int{}
	for range 6000 {
		c, day := randomCity(r), someDay(r)
		set := compareTimes(t, c, day)[0]
		rise := compareTimes(t, c, day+1)[1]
		kinds[[2]int{set, rise}]++
		if n, e := Night(c, day); n != wantNight(c, day) || e != api.OK {
			t.Fatalf("Night(%v, %d) = %v, %d, want %v", c, day, n, e, wantNight(c, day))
		}
	}
	for _, both := range [][2]int{{0, 0}, {1, 1}, {2, 2}, {3, 3}, {0, 3}, {3, 0}, {2, 3}, {3, 2}} {
		if kinds[both] == 0 {
			t.Errorf("the kinds of sunset and sunrise are never %v: %v", both, kinds)
		}
	}
}

// nightsAround yields nights, as cities and days, in which the sun begins to stay up, or down, or ends it.
func nightsAround(yield func(c api.SnCity, day int) bool) {
	for lat := -88; lat <= 88; lat += 4 {
		c := api.SnCity{Lat: lat * api.Degree, Lon: lat * api.Degree, Altitude: api.Encl{Lo: -850000, Hi: -850000}}
		last := [2]int{}
		for day := 100; day < 466; day++ {
			set, _, _ := Set(c, day)
			rise, _, _ := Rise(c, day+1)
			if kinds := [2]int{set, rise}; kinds != last {
				last = kinds
				if !yield(c, day-1) || !yield(c, day) {
					return
				}
			}
		}
	}
}

// P7.4: nights of which only one half is all light, or dark, or is not certain.
func TestNightsAround(t *testing.T) {
	kinds := map[[2]int]int{}
	for c, day := range nightsAround {
		set := compareTimes(t, c, day)[0]
		rise := compareTimes(t, c, day+1)[1]
		kinds[[2]int{set, rise}]++
		if n, e := Night(c, day); n != wantNight(c, day) || e != api.OK {
			t.Fatalf("Night(%v, %d) = %v, %d, want %v", c, day, n, e, wantNight(c, day))
		}
	}
	for _, both := range [][2]int{{0, 3}, {1, 3}, {2, 3}, {3, 0}, {3, 1}, {3, 2}} {
		if kinds[both] < 5 {
			t.Errorf("the kinds of sunset and sunrise are seldom %v: %v", both, kinds)
		}
	}
}

// P7.2: for random spans, moments and cities.
func TestRandomSpans(t *testing.T) {
	r := rand.New(rand.NewSource(702))
	for range 10000 {
		from := r.Intn(86400*40000) - 172800
		to := from + r.Intn([]int{1, 5000, 172801}[r.Intn(3)])
		sine, equation := wantSun(from, to)
		if x, y, e := Sun(from, to); x != sine || y != equation || e != api.OK {
			t.Fatalf("Sun(%d, %d) = %v, %v, %d, want %v, %v", from, to, x, y, e, sine, equation)
		}
		c := randomCity(r)
		if x, e := High(c, from); x != wantHigh(c, from) || e != api.OK {
			t.Fatalf("High(%v, %d) = %v, %d, want %v", c, from, x, e, wantHigh(c, from))
		}
	}
}
