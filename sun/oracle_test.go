package sun

import (
	"math/big"

	"linkboy/angle"
	"linkboy/api"
)

// What follows computes as the document says, in its order, with quotients of numbers of any size.

// floor returns a times b by c, which is above 0, and rounds it down.
func floor(a, b, c int) int {
	product := new(big.Int).Mul(big.NewInt(int64(a)), big.NewInt(int64(b)))
	return int(product.Div(product, big.NewInt(int64(c))).Int64())
}

// ceil rounds up.
func ceil(a, b, c int) int { return -floor(-a, b, c) }

// must fails if there is an error.
func must(x api.Encl, e api.Errno) api.Encl {
	if e != api.OK || x.Lo > x.Hi {
		panic("an enclosure with an error")
	}
	return x
}

func wantReduced(x api.Encl) api.Encl {
	for x.Lo < 0 {
		x.Lo, x.Hi = x.Lo+360000000, x.Hi+360000000
	}
	turns := x.Lo / 360000000
	return api.Encl{Lo: x.Lo - 360000000*turns, Hi: x.Hi - 360000000*turns}
}

// wantOf returns k of the sine of n times an angle.
func wantOf(k, n int, a api.Encl) api.Encl {
	s := must(angle.SinOf(api.Encl{Lo: n * a.Lo, Hi: n * a.Hi}))
	return api.Encl{Lo: floor(k, s.Lo, 100000000), Hi: ceil(k, s.Hi, 100000000)}
}

func wantSun(a, b int) (sine, equation api.Encl) {
	g := wantReduced(api.Encl{Lo: 357528000 + floor(98560028, a, 8640000), Hi: 357528000 + ceil(98560028, b, 8640000)})
	q := wantReduced(api.Encl{Lo: 280459000 + floor(98564736, a, 8640000), Hi: 280459000 + ceil(98564736, b, 8640000)})
	c1, c2 := wantOf(1915000, 1, g), wantOf(20000, 2, g)
	c := api.Encl{Lo: c1.Lo + c2.Lo, Hi: c1.Hi + c2.Hi}
	l := wantReduced(api.Encl{Lo: q.Lo + c.Lo - 10000, Hi: q.Hi + c.Hi + 10000})
	obliquity := api.Encl{Lo: 23439000 + floor(-36, b, 8640000), Hi: 23439000 + ceil(-36, a, 8640000)}
	sine = must(angle.Times(must(angle.SinOf(obliquity)), must(angle.SinOf(l))))
	e2, e4 := wantOf(2466000, 2, l), wantOf(53000, 4, l)
	return sine, api.Encl{Lo: e2.Lo - c.Hi - e4.Hi - 10000, Hi: e2.Hi - c.Lo - e4.Lo + 10000}
}

func wantCosine(sine api.Encl) api.Encl { return must(angle.CosOf(must(angle.Arcsin(sine)))) }

func wantHigh(c api.SnCity, m int) api.Encl {
	sine, equation := wantSun(m, m)
	hour := wantReduced(api.Encl{Lo: floor(12500, m, 3) + c.Lon + equation.Lo, Hi: ceil(12500, m, 3) + c.Lon + equation.Hi})
	first := must(angle.Times(must(angle.Sin(c.Lat)), sine))
	second := must(angle.Times(must(angle.Cos(c.Lat)), wantCosine(sine)))
	return must(angle.Plus(first, must(angle.Times(second, must(angle.CosOf(hour))))))
}

// meanNoon returns the n0 and the n1 of a day.
func meanNoon(c api.SnCity, day int) (n0, n1 int) {
	return 86400*day + floor(-3, c.Lon, 12500), 86400*day + ceil(-3, c.Lon, 12500)
}

// wantWindow returns the window of sunset, or of sunrise.
func wantWindow(c api.SnCity, day int, isSet bool) api.Encl {
	n0, n1 := meanNoon(c, day)
	if isSet {
		return api.Encl{Lo: n0 - 1200, Hi: n1 + 44400}
	}
	return api.Encl{Lo: n0 - 44400, Hi: n1 + 1200}
}

// wantPassing returns what the sun does in a half of a day, and the last W, in moments.
func wantPassing(c api.SnCity, day int, isSet bool) (kind int, w api.Encl) {
	w = wantWindow(c, day, isSet)
	for range 3 {
		sine, equation := wantSun(w.Lo, w.Hi)
		less := must(angle.Minus(must(angle.SinOf(c.Altitude)), must(angle.Times(must(angle.Sin(c.Lat)), sine))))
		x := must(angle.Over(less, must(angle.Times(must(angle.Cos(c.Lat)), wantCosine(sine)))))
		switch {
		case x.Lo > 100000000:
			return 1, w
		case x.Hi < -100000000:
			return 2, w
		case x.Lo < -100000000 || x.Hi > 100000000:
			return 3, w
		}
		h := must(angle.Arccos(x))
		if !isSet {
			h = api.Encl{Lo: -h.Hi, Hi: -h.Lo}
		}
		a := api.Encl{Lo: h.Lo - c.Lon - equation.Hi, Hi: h.Hi - c.Lon - equation.Lo}
		w = api.Encl{Lo: 86400*day + floor(3, a.Lo, 12500), Hi: 86400*day + ceil(3, a.Hi, 12500)}
	}
	return 0, w
}

// inLocal returns local seconds of a day.
func inLocal(c api.SnCity, day, moment int) int { return moment + 43200 + c.Zone - 86400*day }

func wantTimes(c api.SnCity, day int, isSet bool) (kind int, at api.Encl) {
	kind, w := wantPassing(c, day, isSet)
	if kind != 0 {
		return kind, api.Encl{}
	}
	return 0, api.Encl{Lo: inLocal(c, day, w.Lo), Hi: inLocal(c, day, w.Hi)}
}

func wantNight(c api.SnCity, day int) api.SnNight {
	set, dusk := wantPassing(c, day, true)
	rise, dawn := wantPassing(c, day+1, false)
	if set == 2 && rise == 2 {
		return api.SnNight{}
	}
	var on, off int
	switch set {
	case 0:
		on = dusk.Lo
	case 1, 3:
		on = wantWindow(c, day, true).Lo
	case 2:
		on = wantWindow(c, day+1, false).Lo
	}
	switch rise {
	case 0:
		off = dawn.Hi
	case 1, 3:
		off = wantWindow(c, day+1, false).Hi
	case 2:
		off = wantWindow(c, day, true).Hi
	}
	return api.SnNight{On: inLocal(c, day, on), Off: inLocal(c, day, off)}
}
