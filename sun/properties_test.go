package sun

import (
	"math"
	"math/rand"
	"testing"

	"linkboy/angle"
	"linkboy/api"
)

// holds reports whether x contains all of y.
func holds(x, y api.Encl) bool { return x.Lo <= y.Lo && y.Hi <= x.Hi }

// within returns an enclosure in another one.
func within(r *rand.Rand, x api.Encl) api.Encl {
	a, b := x.Lo+r.Intn(x.Hi-x.Lo+1), x.Lo+r.Intn(x.Hi-x.Lo+1)
	return api.Encl{Lo: min(a, b), Hi: max(a, b)}
}

// truth is a sun that is not quite where the model says: by so many degrees in L, and in the equation of time.
type truth struct{ longitude, equation float64 }

func randomTruth(r *rand.Rand) truth {
	slack := func() float64 { return []float64{-0.01, 0, 0.01, 0.02*r.Float64() - 0.01}[r.Intn(4)] }
	return truth{slack(), slack()}
}

func sine(degrees float64) float64 { return math.Sin(degrees * math.Pi / 180) }

// at returns the sine of the declination and the equation of time, in degrees.
func (s truth) at(moment int) (declination, equation float64) {
	days := float64(moment) / 86400
	g := 357.528 + 0.98560028*days
	c := 1.915*sine(g) + 0.020*sine(2*g)
	l := 280.459 + 0.98564736*days + c + s.longitude
	return sine(23.439-0.00000036*days) * sine(l), 2.466*sine(2*l) - c - 0.053*sine(4*l) + s.equation
}

// high returns the sine of the altitude.
func (s truth) high(c api.SnCity, moment int) float64 {
	declination, equation := s.at(moment)
	hour := float64(moment)/240 + float64(c.Lon)/1e6 + equation
	lat := float64(c.Lat) / 1e6
	return sine(lat)*declination + sine(lat+90)*math.Sqrt(1-declination*declination)*sine(hour+90)
}

// tiny is how wrong sums of floats may be.
const tiny = 1e-9

// encloses reports whether an enclosure with a unit contains a number, or nearly so.
func encloses(x api.Encl, n, unit float64) bool {
	return float64(x.Lo)/unit <= n+tiny && n-tiny <= float64(x.Hi)/unit
}

// P2: the sun of all moments of a span is in what Sun, and High, return; these are narrow for single moments.
func TestTruth(t *testing.T) {
	r := rand.New(rand.NewSource(72))
	for range 20000 {
		from := r.Intn(86400*40000) - 172800
		to := from + r.Intn([]int{1, 5000, 172801}[r.Intn(3)])
		declinations, equations, _ := Sun(from, to)
		moment, real := from+r.Intn(to-from+1), randomTruth(r)
		if sine, equation := real.at(moment); !encloses(declinations, sine, 1e8) || !encloses(equations, equation, 1e6) {
			t.Fatalf("Sun(%d, %d) = %v, %v; at %d they are %f, %f", from, to, declinations, equations, moment, sine, equation)
		}
		if from == to && (declinations.Hi-declinations.Lo > 14000 || equations.Hi-equations.Lo > 23000) {
			t.Fatalf("Sun(%d) = %v, %v", from, declinations, equations)
		}
		c := randomCity(r)
		if x, _ := High(c, from); !encloses(x, real.high(c, from), 1e8) || x.Hi-x.Lo > 80000 {
			t.Fatalf("High(%v, %d) = %v; it is %f", c, from, x, real.high(c, from))
		}
	}
}

// place is a city, a day, and the sine of the altitudes at which it becomes dark.
type place struct {
	city api.SnCity
	day  int
	dark api.Encl
}

func randomPlace(r *rand.Rand) place {
	c := randomCity(r)
	dark, _ := angle.SinOf(c.Altitude)
	return place{c, someDay(r), dark}
}

// moment returns a moment from local seconds of the day.
func (p place) moment(local int) int { return local - 43200 - p.city.Zone + 86400*p.day }

// P7.9: the sun at the ends of sunset and sunrise; it is not even below, or above, one of the altitudes, by High and in truth.
func TestSunAtTheEnds(t *testing.T) {
	r := rand.New(rand.NewSource(79))
	passed := 0
	for range 4000 {
		p, real := randomPlace(r), randomTruth(r)
		notBelow := func(local int) {
			if h, e := High(p.city, p.moment(local)); h.Hi < p.dark.Hi || e != api.OK || real.high(p.city, p.moment(local)) < float64(p.dark.Hi-1)/1e8-tiny {
				t.Fatalf("%v: it is below the altitude at %d", p, local)
			}
		}
		notAbove := func(local int) {
			if h, e := High(p.city, p.moment(local)); h.Lo > p.dark.Lo || e != api.OK || real.high(p.city, p.moment(local)) > float64(p.dark.Lo+1)/1e8+tiny {
				t.Fatalf("%v: it is above the altitude at %d", p, local)
			}
		}
		if kind, at, _ := Set(p.city, p.day); kind == api.SnPasses {
			passed++
			notBelow(at.Lo)
			notAbove(at.Hi)
		}
		if kind, at, _ := Rise(p.city, p.day); kind == api.SnPasses {
			notAbove(at.Lo)
			notBelow(at.Hi)
		}
	}
	if passed < 1000 {
		t.Errorf("%d sunsets", passed)
	}
}

// P7.9: where the sun does not pass the altitude, it does so at no moment of the window.
func TestSunStays(t *testing.T) {
	r := rand.New(rand.NewSource(791))
	for range 2000 {
		p, real := randomPlace(r), randomTruth(r)
		for _, isSet := range []bool{true, false} {
			kind, _, _ := Rise(p.city, p.day)
			if isSet {
				kind, _, _ = Set(p.city, p.day)
			}
			window := wantWindow(p.city, p.day, isSet)
			for range 20 {
				moment := window.Lo + r.Intn(window.Hi-window.Lo+1)
				h, high := must(High(p.city, moment)), real.high(p.city, moment)
				if kind == api.SnDark && (h.Lo > p.dark.Lo || high > float64(p.dark.Lo+1)/1e8+tiny) || kind == api.SnLight && (h.Hi < p.dark.Hi || high < float64(p.dark.Hi-1)/1e8-tiny) {
					t.Fatalf("%v: it is %d, but at %d the sun is at %v, %f", p, kind, moment, h, high)
				}
			}
		}
	}
}

// P7.9: with a lower Altitude the sun sets no earlier, and rises no later.
func TestLowerAltitude(t *testing.T) {
	r := rand.New(rand.NewSource(792))
	compared := 0
	for range 6000 {
		p := randomPlace(r)
		lower := p.city
		by := api.Degree + r.Intn(2)*r.Intn(4*api.Degree)
		lower.Altitude = api.Encl{Lo: lower.Altitude.Lo - by, Hi: lower.Altitude.Hi - by}
		if Check(lower) != api.OK {
			continue
		}
		set, dusk, _ := Set(p.city, p.day)
		rise, dawn, _ := Rise(p.city, p.day)
		setLower, duskLower, _ := Set(lower, p.day)
		riseLower, dawnLower, _ := Rise(lower, p.day)
		if set == api.SnPasses && setLower == api.SnPasses {
			compared++
			if duskLower.Lo < dusk.Lo || duskLower.Hi < dusk.Hi {
				t.Fatalf("%v: it sets at %v, %d lower at %v", p, dusk, by, duskLower)
			}
		}
		if rise == api.SnPasses && riseLower == api.SnPasses && (dawnLower.Lo > dawn.Lo || dawnLower.Hi > dawn.Hi) {
			t.Fatalf("%v: it rises at %v, %d lower at %v", p, dawn, by, dawnLower)
		}
	}
	if compared < 1000 {
		t.Errorf("%d sunsets were compared", compared)
	}
}

// momentsWithoutLight returns moments from mean noon of the day to that of the next one that are in none of the nights around.
func (p place) momentsWithoutLight(r *rand.Rand) (all []int) {
	n0, n1 := meanNoon(p.city, p.day)
	n1 += 86400
	tried := []int{n0, n1, n0 + 43200}
	for range 30 {
		tried = append(tried, n0+r.Intn(n1-n0+1))
	}
	var nights []api.Encl // of moments
	for day := p.day - 1; day <= p.day+1; day++ {
		n, _ := Night(p.city, day)
		if n == (api.SnNight{}) {
			continue
		}
		there := place{p.city, day, p.dark}
		night := api.Encl{Lo: there.moment(n.On), Hi: there.moment(n.Off)}
		nights = append(nights, night)
		tried = append(tried, night.Lo-1, night.Hi+1)
	}
	for _, moment := range tried {
		isIn := moment < n0 || moment > n1
		for _, night := range nights {
			isIn = isIn || night.Lo <= moment && moment <= night.Hi
		}
		if !isIn {
			all = append(all, moment)
		}
	}
	return all
}

// P7.9: whenever the sun is below the Altitude, by High or in truth, lamps burn.
func TestLampsBurnInTheDark(t *testing.T) {
	r := rand.New(rand.NewSource(793))
	near := 0
	look := func(p place) {
		real := randomTruth(r)
		for _, moment := range p.momentsWithoutLight(r) {
			h, high := must(High(p.city, moment)), real.high(p.city, moment)
			if h.Hi < p.dark.Hi || high < float64(p.dark.Hi-1)/1e8-tiny {
				t.Fatalf("%v: at %d no lamp burns, but the sun is at %v, %f", p, moment, h, high)
			}
			if h.Lo < p.dark.Hi+100000 {
				near++
			}
		}
	}
	for range 3000 {
		look(randomPlace(r))
	}
	for c, day := range nightsAround {
		dark, _ := angle.SinOf(c.Altitude)
		look(place{c, day, dark})
	}
	if near < 500 {
		t.Errorf("%d moments were nearly dark", near)
	}
}

// P7.10: parts of spans.
func TestPartsOfSpans(t *testing.T) {
	r := rand.New(rand.NewSource(710))
	for range 10000 {
		from := r.Intn(86400*40000) - 172800
		span := api.Encl{Lo: from, Hi: from + r.Intn([]int{10, 5000, 172801}[r.Intn(3)])}
		part := within(r, span)
		x, y, _ := Sun(span.Lo, span.Hi)
		if a, b, e := Sun(part.Lo, part.Hi); !holds(x, a) || !holds(y, b) || e != api.OK {
			t.Fatalf("Sun(%v) = %v, %v, of a part, %v, %v, %v, %d", span, x, y, part, a, b, e)
		}
	}
}

// P7.10: parts of an Altitude.
func TestPartsOfAltitudes(t *testing.T) {
	r := rand.New(rand.NewSource(7101))
	narrower, shorter := 0, 0
	for range 6000 {
		p := randomPlace(r)
		part := p.city
		part.Altitude = within(r, part.Altitude)
		for _, what := range []func(api.SnCity, int) (int, api.Encl, api.Errno){Set, Rise} {
			kind, at, _ := what(p.city, p.day)
			partKind, partAt, _ := what(part, p.day)
			if kind != api.SnMaybe && partKind != kind || !holds(at, partAt) && kind == api.SnPasses {
				t.Fatalf("%v: %d, %v; for %v: %d, %v", p, kind, at, part, partKind, partAt)
			}
			if at != partAt {
				narrower++
			}
		}
		n, _ := Night(p.city, p.day)
		then, _ := Night(part, p.day)
		if then.Off-then.On > n.Off-n.On {
			t.Fatalf("%v: the night is %v, for %v it is %v", p, n, part, then)
		}
		if then.Off-then.On < n.Off-n.On {
			shorter++
		}
	}
	if narrower < 500 || shorter < 500 {
		t.Errorf("%d sun times became narrower, %d nights shorter", narrower, shorter)
	}
}

// P7.11
func TestNightsInOrder(t *testing.T) {
	r := rand.New(rand.NewSource(711))
	for range 4000 {
		p := randomPlace(r)
		n, _ := Night(p.city, p.day)
		if n.Off < n.On || n.Off-n.On >= 2*86400 {
			t.Fatalf("Night(%v) = %v", p, n)
		}
		// where the clocks say about 12 o'clock at noon, it ends less than 48 hours after the day begins
		p.city.Zone = p.city.Lon * 86400 / (360 * api.Degree)
		if n, _ = Night(p.city, p.day); n.On < 0 || n.Off >= 2*86400 {
			t.Fatalf("Night(%v) = %v", p, n)
		}
	}
	for range 100 {
		p := randomPlace(r)
		nights := r.Intn(41)
		first := r.Intn(nights + 1)
		p.day = min(p.day, api.MaxSnDay-nights)
		all, _ := Hours(p.city, p.day, nights)
		some, _ := Hours(p.city, p.day, first)
		if others, e := Hours(p.city, p.day+first, nights-first); all != some+others || e != api.OK {
			t.Fatalf("%v: %d hours in %d nights, %d in the first %d, %d in the others", p, all, nights, some, first, others)
		}
	}
}
