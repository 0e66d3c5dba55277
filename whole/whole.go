// Package whole computes with integers: quotients and square roots that are rounded to a stated side, and enclosures with whole ends.
package whole

import (
	"math"

	"linkboy/api"
)

// Down returns the greatest integer that is not above a by b, which is above 0.
func Down(a, b int) int {
	q := a / b
	if a%b < 0 {
		q--
	}
	return q
}

// Up returns the least integer that is not below a by b, which is above 0.
func Up(a, b int) int {
	q := a / b
	if a%b > 0 {
		q++
	}
	return q
}

// IsFrom reports whether a number is from least to most.
func IsFrom(n, least, most int) bool { return least <= n && n <= most }

// IsIndex reports whether a number is the index of something in a list that has so many elements.
func IsIndex(n, count int) bool { return IsFrom(n, 0, count-1) }

// AreFrom reports whether all numbers of a list are from least to most.
func AreFrom(numbers []int, least, most int) bool {
	for _, n := range numbers {
		if !IsFrom(n, least, most) {
			return false
		}
	}
	return true
}

// Only returns the enclosure of a single number.
func Only(a int) api.Encl { return api.Encl{Lo: a, Hi: a} }

// Join returns the least enclosure of some enclosures.
func Join(all api.Encl, others ...api.Encl) api.Encl {
	for _, x := range others {
		all.Lo = min(all.Lo, x.Lo)
		all.Hi = max(all.Hi, x.Hi)
	}
	return all
}

// Add returns the sum of two enclosures, end by end.
func Add(x, y api.Encl) api.Encl { return api.Encl{Lo: x.Lo + y.Lo, Hi: x.Hi + y.Hi} }

// Less returns the enclosure of all differences, of a number in x less one in y.
func Less(x, y api.Encl) api.Encl { return api.Encl{Lo: x.Lo - y.Hi, Hi: x.Hi - y.Lo} }

// Multiple returns n times an enclosure, end by end; n is not below 0.
func Multiple(x api.Encl, n int) api.Encl { return api.Encl{Lo: n * x.Lo, Hi: n * x.Hi} }

// IsWithin reports whether an enclosure is valid and has only numbers from least to most.
func IsWithin(x api.Encl, least, most int) bool {
	return least <= x.Lo && x.Lo <= x.Hi && x.Hi <= most
}

// Quotient returns the least enclosure of a by b, which is not 0.
func Quotient(a, b int) api.Encl {
	if b < 0 {
		a, b = -a, -b
	}
	return api.Encl{Lo: Down(a, b), Hi: Up(a, b)}
}

// Root returns the least enclosure of the square root of a number from 0 to 2^62.
func Root(a int) api.Encl {
	r := int(math.Sqrt(float64(a)))
	for r*r > a { // a has more digits than a float
		r--
	}
	for (r+1)*(r+1) <= a {
		r++
	}
	if r*r == a {
		return Only(r)
	}
	return api.Encl{Lo: r, Hi: r + 1}
}
