package angle

import (
	"math"
	"math/big"
	"math/rand"
	"testing"

	"linkboy/api"
	"linkboy/whole"
)

// operation is Plus, Minus, Times or Over.
type operation func(x, y api.Encl) (api.Encl, api.Errno)

// invalid are enclosures that are not valid ones of values.
var invalid = []api.Encl{{Lo: 1, Hi: 0}, {Lo: 0, Hi: api.MaxValue + 1}, {Lo: -api.MaxValue - 1, Hi: 0}, {Lo: api.MaxValue, Hi: -api.MaxValue}, {Lo: math.MinInt, Hi: math.MaxInt}, {Lo: math.MaxInt, Hi: math.MinInt}, {Lo: math.MinInt, Hi: math.MinInt}, {Lo: math.MaxInt, Hi: math.MaxInt}, {Lo: -1 << 32, Hi: 1 << 32}}

// P1.4
func TestRootExamples(t *testing.T) {
	for _, c := range []struct{ x, want api.Encl }{
		{encl(0, 0), encl(0, 0)},
		{encl(2*api.One, 2*api.One), encl(141421356, 141421357)},
		{encl(0, 225000000), encl(0, 150000000)},
		{encl(api.One, 4*api.One), encl(api.One, 2*api.One)},
		{encl(1, 1), encl(10000, 10000)},
		{encl(2, 3), encl(14142, 17321)},
		{encl(api.One-1, api.One+1), encl(99999999, 100000001)},
		{encl(api.MaxValue, api.MaxValue), encl(547722557, 547722558)},
		// as floats the roots of these are 500000001 and 499999999
		{encl(2500000010, 2500000010), encl(500000000, 500000001)},
		{encl(2499999990, 2499999990), encl(499999998, 499999999)},
	} {
		if r, e := Root(c.x); r != c.want || e != api.OK {
			t.Errorf("Root(%v) = %v, %d, want %v", c.x, r, e, c.want)
		}
	}
	for _, x := range append([]api.Encl{encl(-1, 1), encl(-1, -1)}, invalid...) {
		if r, e := Root(x); r != encl(0, 0) || e != api.ErrRange {
			t.Errorf("Root(%v) = %v, %d", x, r, e)
		}
	}
}

// P1.4
func TestRootIsLeast(t *testing.T) {
	below := func(x int) int {
		n := new(big.Int).Mul(big.NewInt(int64(x)), big.NewInt(api.One))
		return int(n.Sqrt(n).Int64())
	}
	check := func(lo, hi int) {
		want := encl(below(lo), below(hi))
		if want.Hi*want.Hi < hi*api.One {
			want.Hi++
		}
		if r, e := Root(encl(lo, hi)); r != want || e != api.OK {
			t.Errorf("Root(%d to %d) = %v, %d, want %v", lo, hi, r, e, want)
		}
	}
	r := rand.New(rand.NewSource(4))
	for range 20000 {
		x, y := r.Intn(api.MaxValue+1), r.Intn(api.MaxValue+1)
		check(min(x, y), max(x, y))
		// near squares a float is wrong most easily
		root := 10000 * (1 + r.Intn(54772))
		square := root * root / api.One
		check(max(square-1, 0), square+1)
		check(square, square)
	}
}

// P1.5
func TestArithmeticExamples(t *testing.T) {
	one := api.One
	for i, c := range []struct {
		do         operation
		x, y, want api.Encl
	}{
		{Plus, encl(1, 2), encl(-3, 4), encl(-2, 6)},
		{Plus, encl(10*one, 20*one), encl(-one, 10*one), encl(9*one, api.MaxValue)},
		{Minus, encl(1, 2), encl(-3, 4), encl(-3, 5)},
		{Minus, encl(-10*one, 0), encl(-one, 20*one), encl(-api.MaxValue, one)},
		{Times, encl(3, 3), encl(one/2, one/2), encl(1, 2)},
		{Times, encl(-3, 3), encl(one/2, one/2), encl(-2, 2)},
		{Times, encl(-one, 2*one), encl(3*one, 4*one), encl(-4*one, 8*one)},
		{Times, encl(-one, 2*one), encl(-4*one, -3*one), encl(-8*one, 4*one)},
		{Times, encl(-one, 2*one), encl(-3*one, 5*one), encl(-6*one, 10*one)},
		{Times, encl(-1, -1), encl(1, 1), encl(-1, 0)},
		{Times, encl(0, 0), encl(-api.MaxValue, api.MaxValue), encl(0, 0)},
		{Times, encl(api.MaxValue, api.MaxValue), encl(one, one), encl(api.MaxValue, api.MaxValue)},
		{Over, encl(one, one), encl(3*one, 3*one), encl(33333333, 33333334)},
		{Over, encl(-one, -one), encl(3*one, 3*one), encl(-33333334, -33333333)},
		{Over, encl(one, one), encl(-3*one, -3*one), encl(-33333334, -33333333)},
		{Over, encl(one, 2*one), encl(-2*one, -one), encl(-2*one, -one/2)},
		{Over, encl(-one, one), encl(2*one, 4*one), encl(-one/2, one/2)},
		{Over, encl(one, 2*one), encl(2*one, 4*one), encl(one/4, one)},
		{Over, encl(30, 30), encl(1, 1), encl(api.MaxValue, api.MaxValue)},
		{Over, encl(0, 0), encl(1, api.MaxValue), encl(0, 0)},
		{Over, encl(1, 1), encl(api.MaxValue, api.MaxValue), encl(0, 1)},
	} {
		if z, e := c.do(c.x, c.y); z != c.want || e != api.OK {
			t.Errorf("%d: %v, %v: %v, %d, want %v", i, c.x, c.y, z, e, c.want)
		}
	}
}

// P1.5
func TestArithmeticRefuses(t *testing.T) {
	all := []operation{Plus, Minus, Times, Over}
	for i, do := range all {
		for _, bad := range invalid {
			// a divisor that is not valid, or holds 0, is no excuse for the other argument
			for _, other := range append([]api.Encl{encl(api.One, api.One), encl(0, 0)}, invalid...) {
				if z, e := do(bad, other); z != encl(0, 0) || e != api.ErrRange {
					t.Errorf("%d: %v, %v: %v, %d", i, bad, other, z, e)
				}
				if z, e := do(other, bad); z != encl(0, 0) || e != api.ErrRange {
					t.Errorf("%d: %v, %v: %v, %d", i, other, bad, z, e)
				}
			}
		}
	}
	one, most := api.One, api.MaxValue
	for i, c := range []struct {
		do   operation
		x, y api.Encl
		e    api.Errno
	}{
		{Over, encl(one, one), encl(-1, 1), api.ErrZero},
		{Over, encl(one, one), encl(0, 1), api.ErrZero},
		{Over, encl(one, one), encl(-1, 0), api.ErrZero},
		{Over, encl(0, 0), encl(0, 0), api.ErrZero},
		{Over, encl(most, most), encl(-most, most), api.ErrZero},
		{Over, encl(one, one), encl(1, one), api.ErrRange},
		{Over, encl(31, 31), encl(1, 1), api.ErrRange},
		{Over, encl(31, 31), encl(-1, -1), api.ErrRange},
		{Over, encl(-most, 0), encl(one-1, one), api.ErrRange},
		{Plus, encl(20*one, 20*one), encl(20*one, 20*one), api.ErrRange},
		{Plus, encl(0, most), encl(0, 1), api.ErrRange},
		{Plus, encl(-most, 0), encl(-1, 0), api.ErrRange},
		{Minus, encl(0, most), encl(-1, 0), api.ErrRange},
		{Minus, encl(-most, 0), encl(0, 1), api.ErrRange},
		{Times, encl(most, most), encl(one+1, one+1), api.ErrRange},
		{Times, encl(most, most), encl(-most, most), api.ErrRange},
		{Times, encl(0, 6*one), encl(0, 5*one+1), api.ErrRange},
		{Times, encl(-6*one, 0), encl(0, 5*one+1), api.ErrRange},
	} {
		if z, e := c.do(c.x, c.y); z != encl(0, 0) || e != c.e {
			t.Errorf("%d: %v, %v: %v, %d, want %d", i, c.x, c.y, z, e, c.e)
		}
	}
}

// exact computes with fractions what the ends of x and y make, and encloses it.
func exact(x, y api.Encl, do func(z, a, b *big.Rat) *big.Rat) api.Encl {
	one := big.NewRat(api.One, 1)
	var all []api.Encl
	for _, a := range []int{x.Lo, x.Hi} {
		for _, b := range []int{y.Lo, y.Hi} {
			z := do(new(big.Rat), big.NewRat(int64(a), api.One), big.NewRat(int64(b), api.One))
			z.Mul(z, one)
			below := int(new(big.Int).Div(z.Num(), z.Denom()).Int64())
			above := -int(new(big.Int).Div(new(big.Int).Neg(z.Num()), z.Denom()).Int64())
			all = append(all, encl(below, above))
		}
	}
	return whole.Join(all[0], all[1:]...)
}

// randomEncl returns a valid enclosure of values, of numbers of any size.
func randomEncl(r *rand.Rand) api.Encl {
	pick := func() int { return (r.Intn(2*api.MaxValue+1) - api.MaxValue) >> r.Intn(32) }
	a, b := pick(), pick()
	return encl(min(a, b), max(a, b))
}

// P1.5
func TestArithmeticIsLeast(t *testing.T) {
	r := rand.New(rand.NewSource(5))
	done := 0
	for range 40000 {
		x, y := randomEncl(r), randomEncl(r)
		for i, c := range []struct {
			do    operation
			exact func(z, a, b *big.Rat) *big.Rat
		}{{Plus, (*big.Rat).Add}, {Minus, (*big.Rat).Sub}, {Times, (*big.Rat).Mul}, {Over, (*big.Rat).Quo}} {
			if i == 3 && y.Lo <= 0 && y.Hi >= 0 {
				continue
			}
			want, wantError := exact(x, y, c.exact), api.OK
			if want.Lo < -api.MaxValue || want.Hi > api.MaxValue {
				want, wantError = encl(0, 0), api.ErrRange
			} else {
				done++
			}
			if z, e := c.do(x, y); z != want || e != wantError {
				t.Errorf("%d: %v, %v: %v, %d, want %v, %d", i, x, y, z, e, want, wantError)
			}
		}
	}
	if done < 40000 {
		t.Errorf("only %d results", done)
	}
}
