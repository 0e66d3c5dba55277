package angle

import (
	"math/bits"

	"linkboy/api"
	"linkboy/whole"
)

const (
	// radian is a millionth of a degree as an arc, pi / 180000000, in units of 2^-89, rounded.
	radian = 10803064813898918630
	// unit is 1 in the units of series, of 2^-63.
	unit = 1 << 63
	// factors is how many factors series has: what more of them would add is less than 2^-75.
	factors = 12
)

// sine returns the least enclosure of the sine of any angle, in hundred-millionths.
func sine(a int) api.Encl {
	a = reduced(a)
	if a >= 2*right {
		s := sineToRight(mirrored(a - 2*right))
		return api.Encl{Lo: -s.Hi, Hi: -s.Lo}
	}
	return sineToRight(mirrored(a))
}

// mirrored returns the angle from 0 to 90 degrees that has the same sine as one from 0 to 180.
func mirrored(a int) int {
	return min(a, 2*right-a)
}

// sineToRight returns the least enclosure of the sine of an angle from 0 to 90 degrees.
func sineToRight(a int) api.Encl {
	switch a { // by Niven's theorem no other sines of these angles are fractions
	case 0:
		return whole.Only(0)
	case right / 3:
		return whole.Only(api.One / 2)
	case right:
		return whole.Only(api.One)
	}
	below := hundredMillionths(series(uint64(a)))
	return api.Encl{Lo: below, Hi: below + 1}
}

// hundredMillionths rounds a number in units of 2^-63 down to hundred-millionths.
func hundredMillionths(s uint64) int {
	high, low := bits.Mul64(s, api.One)
	return int(high<<1 | low>>63)
}

// series returns the sine of an angle from 0 to 90 degrees, in units of 2^-63, from the nested factors 1 - x^2 / (2k (2k + 1)) of its power series.
//
// It is wrong by less than 8 units: by 1.3 as the arc is rounded, by 0.6 as its square is (by 2 units, and a sixth of them counts in the sum, times the arc), by 2.9 as the sum of the factors is wrong by up to 1.85 units, times the arc, and by 1 as the product is rounded. No angle has a sine so near to a whole number of hundred-millionths that this matters, apart from those that are equal to one: a test goes through all of them.
func series(a uint64) uint64 {
	high, low := bits.Mul64(a, radian)
	x := high<<38 | low>>26
	square, _ := bits.Mul64(x, x) // in units of 2^-62
	sum := uint64(unit)
	for k := uint64(factors); k > 0; k-- {
		high, low = bits.Mul64(square, sum)
		sum = unit - (high<<1|low>>63)/(k*(2*k+1))
	}
	high, low = bits.Mul64(x, sum)
	return high<<1 | low>>63
}
