package sun

import (
	"linkboy/angle"
	"linkboy/api"
	"linkboy/whole"
)

const (
	// noon is how many seconds mean noon is after midnight, and moment 0 after the beginning of day 0.
	noon = api.SnDays / 2
	// rounds is how often sun times are computed, each time from the ones before.
	rounds = 3
)

// half is a half of a day, in which the sun passes an altitude once at most: from when to when it may be, in seconds around mean noon.
type half struct {
	reach     api.Encl
	isMorning bool
}

var (
	morning = half{api.Encl{Lo: -44400, Hi: 1200}, true}
	evening = half{api.Encl{Lo: -1200, Hi: 44400}, false}
)

// circle is the way of the sun around a city: the sine of its altitude is middle, and swing times the cosine of the hour angle.
type circle struct{ middle, swing api.Encl }

// circleOf returns the circle at a latitude, for the sine of the sun's declination.
func circleOf(lat int, sine api.Encl) circle {
	cosine := sure(angle.CosOf(sure(angle.Arcsin(sine))))
	return circle{
		middle: sure(angle.Times(sure(angle.Sin(lat)), sine)),
		swing:  sure(angle.Times(sure(angle.Cos(lat)), cosine)),
	}
}

// high returns the sine of the sun's altitude at a moment.
func high(c *api.SnCity, moment int) api.Encl {
	sine, equation := model(whole.Only(moment))
	way := circleOf(c.Lat, sine)
	hour := whole.Add(whole.Add(whole.Quotient(12500*moment, 3), whole.Only(c.Lon)), equation)
	swing := sure(angle.Times(way.swing, sure(angle.CosOf(reduced(hour)))))
	return sure(angle.Plus(way.middle, swing))
}

// passing returns what the sun does in a half of a day, and the moments at which it may pass the altitude: those of the window, if it is not said that it passes.
func (h half) passing(c *api.SnCity, day int) (kind int, at api.Encl) {
	window := h.window(c, day)
	altitude := sure(angle.SinOf(c.Altitude))
	at = window
	round := func() int {
		sine, equation := model(at)
		way := circleOf(c.Lat, sine)
		x := sure(angle.Over(sure(angle.Minus(altitude, way.middle)), way.swing))
		kind := kindOf(x)
		if kind == api.SnPasses {
			hour := h.hourAngles(sure(angle.Arccos(x)))
			at = moments(day, whole.Less(whole.Less(hour, whole.Only(c.Lon)), equation))
		}
		return kind
	}
	for range rounds {
		if kind := round(); kind != api.SnPasses {
			return kind, window
		}
	}
	return api.SnPasses, at
}

// window returns all moments of a half of a day.
func (h half) window(c *api.SnCity, day int) api.Encl {
	return whole.Add(moments(day, whole.Only(-c.Lon)), h.reach)
}

// hourAngles returns the angles from noon, before it in a morning.
func (h half) hourAngles(a api.Encl) api.Encl {
	if h.isMorning {
		return whole.Less(whole.Only(0), a)
	}
	return a
}

// kindOf returns what the sun does if the cosine of the hour angle at which it passes the altitude would have to be x.
func kindOf(x api.Encl) int {
	switch {
	case x.Lo > api.One:
		return api.SnDark
	case x.Hi < -api.One:
		return api.SnLight
	case !whole.IsWithin(x, -api.One, api.One):
		return api.SnMaybe
	}
	return api.SnPasses
}

// moments returns when the earth has turned by angles since the noon of a day at longitude 0.
func moments(day int, a api.Encl) api.Encl {
	seconds := api.Encl{Lo: whole.Down(3*a.Lo, 12500), Hi: whole.Up(3*a.Hi, 12500)}
	return whole.Add(whole.Only(api.SnDays*day), seconds)
}

// local returns moments in local seconds of a day.
func local(c *api.SnCity, day int, at api.Encl) api.Encl {
	return whole.Add(at, whole.Only(noon+c.Zone-api.SnDays*day))
}

// night returns when lamps have to burn in the night after a day.
func night(c *api.SnCity, day int) api.SnNight {
	set, dusk := evening.passing(c, day)
	rise, dawn := morning.passing(c, day+1)
	if set == api.SnLight && rise == api.SnLight {
		return api.SnNight{}
	}
	dark := api.Encl{Lo: dusk.Lo, Hi: dawn.Hi}
	if set == api.SnLight {
		dark.Lo = morning.window(c, day+1).Lo
	}
	if rise == api.SnLight {
		dark.Hi = evening.window(c, day).Hi
	}
	dark = local(c, day, dark)
	return api.SnNight{On: dark.Lo, Off: dark.Hi}
}
