package angle

import (
	"math"

	"linkboy/api"
)

// Root returns the least enclosure of the square roots of all numbers in x, in hundred-millionths.
func Root(x api.Encl) (api.Encl, api.Errno) {
	if !isWithin(x, 0, api.MaxValue) {
		return api.Encl{}, api.ErrRange
	}
	return join(root(x.Lo*api.One), root(x.Hi*api.One)), api.OK
}

// Plus returns the least enclosure of all sums of a number in x and one in y.
func Plus(x, y api.Encl) (api.Encl, api.Errno) {
	return combine(x, y, func(a, b int) api.Encl { return only(a + b) })
}

// Minus returns the least enclosure of all differences, of a number in x less one in y.
func Minus(x, y api.Encl) (api.Encl, api.Errno) {
	return combine(x, y, func(a, b int) api.Encl { return only(a - b) })
}

// Times returns the least enclosure of all products of a number in x and one in y.
func Times(x, y api.Encl) (api.Encl, api.Errno) {
	return combine(x, y, func(a, b int) api.Encl { return quotient(a*b, api.One) })
}

// Over returns the least enclosure of all quotients, of a number in x by one in y.
func Over(x, y api.Encl) (api.Encl, api.Errno) {
	if !isValues(x) || !isValues(y) {
		return api.Encl{}, api.ErrRange
	}
	if y.Lo <= 0 && 0 <= y.Hi {
		return api.Encl{}, api.ErrZero
	}
	return combine(x, y, func(a, b int) api.Encl { return quotient(a*api.One, b) })
}

// combine encloses what an operation makes of any number in x and any in y; the operation rises, or falls, all along with either number, so that the ends are made of ends.
func combine(x, y api.Encl, operation func(a, b int) api.Encl) (api.Encl, api.Errno) {
	if !isValues(x) || !isValues(y) {
		return api.Encl{}, api.ErrRange
	}
	var ends []api.Encl
	collect := func(a, b int) { ends = append(ends, operation(a, b)) }
	collect(x.Lo, y.Lo)
	collect(x.Lo, y.Hi)
	collect(x.Hi, y.Lo)
	collect(x.Hi, y.Hi)
	all := join(ends[0], ends[1:]...)
	if !isValues(all) {
		return api.Encl{}, api.ErrRange
	}
	return all, api.OK
}

// isValues reports whether x is a valid enclosure of values.
func isValues(x api.Encl) bool {
	return isWithin(x, -api.MaxValue, api.MaxValue)
}

// join returns the least enclosure of some enclosures.
func join(all api.Encl, others ...api.Encl) api.Encl {
	for _, x := range others {
		all.Lo = min(all.Lo, x.Lo)
		all.Hi = max(all.Hi, x.Hi)
	}
	return all
}

// only returns the enclosure of a single number.
func only(a int) api.Encl { return api.Encl{Lo: a, Hi: a} }

// quotient returns the least enclosure of a by b, which is not 0.
func quotient(a, b int) api.Encl {
	if b < 0 {
		a, b = -a, -b
	}
	q := only(a / b)
	switch rest := a % b; {
	case rest < 0:
		q.Lo--
	case rest > 0:
		q.Hi++
	}
	return q
}

// root returns the least enclosure of the square root of a number from 0 to 2^60.
func root(a int) api.Encl {
	r := int(math.Sqrt(float64(a)))
	for r*r > a { // a has more digits than a float
		r--
	}
	for (r+1)*(r+1) <= a {
		r++
	}
	if r*r == a {
		return only(r)
	}
	return api.Encl{Lo: r, Hi: r + 1}
}
