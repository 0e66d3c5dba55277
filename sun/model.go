package sun

import (
	"linkboy/angle"
	"linkboy/api"
	"linkboy/whole"
)

const (
	turn = 360 * api.Degree
	// rate is the time, in seconds, for which it is said how much an angle grows.
	rate = 100 * api.SnDays
)

// model returns the sine of the sun's declination and the equation of time, for all moments of a span; the letters are those of the document.
func model(span api.Encl) (sine, equation api.Encl) {
	g := reduced(grown(357528000, 98560028, span))
	q := reduced(grown(280459000, 98564736, span))
	c := whole.Add(ofSine(1915000, g), ofSine(20000, whole.Multiple(g, 2)))
	l := reduced(slack(whole.Add(q, c)))
	obliquity := grown(23439000, -36, span)
	sine = sure(angle.Times(sure(angle.SinOf(obliquity)), sure(angle.SinOf(l))))
	ahead := whole.Less(ofSine(2466000, whole.Multiple(l, 2)), c)
	return sine, slack(whole.Less(ahead, ofSine(53000, whole.Multiple(l, 4))))
}

// grown returns an angle at all moments of a span, from that at moment 0 and by how much it grows in the time of rate.
func grown(start, growth int, span api.Encl) api.Encl {
	ends := whole.Join(whole.Quotient(growth*span.Lo, rate), whole.Quotient(growth*span.Hi, rate))
	return whole.Add(whole.Only(start), ends)
}

// reduced returns angles less as many whole turns that their Lo is from 0 to below one.
func reduced(a api.Encl) api.Encl {
	return whole.Add(a, whole.Only(-turn*whole.Down(a.Lo, turn)))
}

// slack extends angles by the error of the model.
func slack(a api.Encl) api.Encl {
	return whole.Add(a, api.Encl{Lo: -api.SnSlack, Hi: api.SnSlack})
}

// ofSine returns k times the sine of angles.
func ofSine(k int, a api.Encl) api.Encl {
	s := sure(angle.SinOf(a))
	return api.Encl{Lo: whole.Down(k*s.Lo, api.One), Hi: whole.Up(k*s.Hi, api.One)}
}

// sure returns an enclosure without its error: here all angles and values are in their ranges, and the swing of a circle does not contain 0, as no city is at a pole.
func sure(x api.Encl, _ api.Errno) api.Encl { return x }
