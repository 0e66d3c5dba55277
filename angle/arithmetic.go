package angle

import (
	"linkboy/api"
	"linkboy/whole"
)

// Root returns the least enclosure of the square roots of all numbers in x, in hundred-millionths.
func Root(x api.Encl) (api.Encl, api.Errno) {
	if !whole.IsWithin(x, 0, api.MaxValue) {
		return api.Encl{}, api.ErrRange
	}
	return whole.Join(whole.Root(x.Lo*api.One), whole.Root(x.Hi*api.One)), api.OK
}

// Plus returns the least enclosure of all sums of a number in x and one in y.
func Plus(x, y api.Encl) (api.Encl, api.Errno) {
	return combine(x, y, func(a, b int) api.Encl { return whole.Only(a + b) })
}

// Minus returns the least enclosure of all differences, of a number in x less one in y.
func Minus(x, y api.Encl) (api.Encl, api.Errno) {
	return combine(x, y, func(a, b int) api.Encl { return whole.Only(a - b) })
}

// Times returns the least enclosure of all products of a number in x and one in y.
func Times(x, y api.Encl) (api.Encl, api.Errno) {
	return combine(x, y, func(a, b int) api.Encl { return whole.Quotient(a*b, api.One) })
}

// Over returns the least enclosure of all quotients, of a number in x by one in y.
func Over(x, y api.Encl) (api.Encl, api.Errno) {
	if !isValues(x) || !isValues(y) {
		return api.Encl{}, api.ErrRange
	}
	if y.Lo <= 0 && 0 <= y.Hi {
		return api.Encl{}, api.ErrZero
	}
	return combine(x, y, func(a, b int) api.Encl { return whole.Quotient(a*api.One, b) })
}

// combine encloses what an operation makes of any number in x and any in y; the operation rises, or falls, all along with either number, so that the ends are made of ends.
func combine(x, y api.Encl, operation func(a, b int) api.Encl) (api.Encl, api.Errno) {
	if !isValues(x) || !isValues(y) {
		return api.Encl{}, api.ErrRange
	}
	var ends []api.Encl
	collect := func(a, b int) { ends = append(ends, operation(a, b)) }
	collect(x.Lo, y.Lo)
	collect(x.Lo, y.Hi)
	collect(x.Hi, y.Lo)
	collect(x.Hi, y.Hi)
	all := whole.Join(ends[0], ends[1:]...)
	if !isValues(all) {
		return api.Encl{}, api.ErrRange
	}
	return all, api.OK
}

// isValues reports whether x is a valid enclosure of values.
func isValues(x api.Encl) bool {
	return whole.IsWithin(x, -api.MaxValue, api.MaxValue)
}
