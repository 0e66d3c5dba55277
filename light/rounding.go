package light

import "linkboy/whole"

// rounding says to which side quotients and square roots are rounded.
type rounding bool

const (
	down rounding = false
	up   rounding = true
)

// quotient returns a by b, which is above 0.
func (r rounding) quotient(a, b int) int {
	if r == up {
		return whole.Up(a, b)
	}
	return whole.Down(a, b)
}

// root returns the square root of a number, which is not below 0.
func (r rounding) root(a int) int {
	if r == up {
		return whole.Root(a).Hi
	}
	return whole.Root(a).Lo
}
