package angle

import (
	"math"
	"math/rand"
	"testing"

	"linkboy/api"
	"linkboy/whole"
)

// must returns a function that fails the test if there is an error.
func must(t *testing.T) func(x api.Encl, e api.Errno) api.Encl {
	return func(x api.Encl, e api.Errno) api.Encl {
		t.Helper()
		if e != api.OK {
			t.Fatalf("error %d", e)
		}
		return x
	}
}

// holds reports whether x contains all of y.
func holds(x, y api.Encl) bool { return x.Lo <= y.Lo && y.Hi <= x.Hi }

// meets reports whether x and y have a number in common.
func meets(x, y api.Encl) bool { return x.Lo <= y.Hi && y.Lo <= x.Hi }

// P1.7
func TestCircle(t *testing.T) {
	ok := must(t)
	angles := someAngles(2000)
	for i, a := range angles {
		sin, cos := ok(Sin(a)), ok(Cos(a))
		if sin.Hi-sin.Lo > 1 || sin.Hi < sin.Lo || cos.Hi-cos.Lo > 1 || cos.Hi < cos.Lo {
			t.Errorf("Sin, Cos(%d) = %v, %v", a, sin, cos)
		}
		if squares := ok(Plus(ok(Times(sin, sin)), ok(Times(cos, cos)))); !holds(squares, whole.Only(api.One)) {
			t.Errorf("the squares of %d: %v", a, squares)
		}
		if a+turn <= api.MaxAngle && (ok(Sin(a+turn)) != sin || ok(Cos(a+turn)) != cos) {
			t.Errorf("a turn from %d", a)
		}
		if a+right <= api.MaxAngle && ok(Sin(a+right)) != cos {
			t.Errorf("a right angle from %d", a)
		}
		b := angles[(i*13+5)%len(angles)]
		if a+b < -api.MaxAngle || a+b > api.MaxAngle {
			continue
		}
		sum := ok(Plus(ok(Times(sin, ok(Cos(b)))), ok(Times(cos, ok(Sin(b))))))
		if !meets(sum, ok(Sin(a+b))) {
			t.Errorf("the sum of %d and %d: %v", a, b, sum)
		}
	}
}

// P1.8
func TestSpansOfAngles(t *testing.T) {
	ok := must(t)
	r := rand.New(rand.NewSource(8))
	for _, a := range someAngles(300) {
		for _, width := range []int{0, 1, r.Intn(degree), r.Intn(right), r.Intn(2 * turn), right, 2 * right, turn} {
			span := encl(a, min(a+width, api.MaxAngle))
			for i, f := range []struct {
				of  func(api.Encl) (api.Encl, api.Errno)
				one func(int) (api.Encl, api.Errno)
			}{{SinOf, Sin}, {CosOf, Cos}} {
				all, first, last := ok(f.of(span)), ok(f.one(span.Lo)), ok(f.one(span.Hi))
				if all.Lo != first.Lo && all.Lo != last.Lo && all.Lo != -api.One || all.Hi != first.Hi && all.Hi != last.Hi && all.Hi != api.One {
					t.Errorf("%d: %v of %v is not reached", i, all, span)
				}
				for range 5 {
					between := span.Lo + r.Intn(span.Hi-span.Lo+1)
					if !holds(all, ok(f.one(between))) {
						t.Errorf("%d: %v of %v does not hold that of %d", i, all, span, between)
					}
				}
			}
		}
	}
}

// P1.8
func TestFractions(t *testing.T) {
	r := rand.New(rand.NewSource(9))
	for range 20000 {
		x, y := randomEncl(r), randomEncl(r)
		a := x.Lo + r.Intn(x.Hi-x.Lo+1)
		b := y.Lo + r.Intn(y.Hi-y.Lo+1)
		if z, e := Times(x, y); e == api.OK && !holds(z, whole.Quotient(a*b, api.One)) {
			t.Errorf("Times(%v, %v) = %v does not hold that of %d and %d", x, y, z, a, b)
		}
		if z, e := Over(x, y); e == api.OK && !holds(z, whole.Quotient(a*api.One, b)) {
			t.Errorf("Over(%v, %v) = %v does not hold that of %d and %d", x, y, z, a, b)
		}
	}
}

// P1.9
func TestBack(t *testing.T) {
	ok := must(t)
	r := rand.New(rand.NewSource(10))
	for i := range 3000 {
		a := []int{0, 1, 30 * degree, right - 1, right, right + 1, 2*right - 1, 2 * right}[i%8]
		if i >= 8 {
			a = r.Intn(2*right + 1)
		}
		if back := ok(Arccos(ok(Cos(a)))); !holds(back, whole.Only(a)) {
			t.Errorf("Arccos of Cos of %d: %v", a, back)
		}
		if back := ok(Arcsin(ok(Sin(a - right)))); !holds(back, whole.Only(a-right)) {
			t.Errorf("Arcsin of Sin of %d: %v", a-right, back)
		}
		x := r.Intn(2*api.One+1) - api.One
		if i < 3 {
			x = (i - 1) * api.One
		}
		arc := ok(Arccos(whole.Only(x)))
		if ok(Cos(arc.Hi)).Lo > x || ok(Cos(arc.Lo)).Hi < x {
			t.Errorf("Cos of Arccos of %d", x)
		}
		arc = ok(Arcsin(whole.Only(x)))
		if ok(Sin(arc.Lo)).Lo > x || ok(Sin(arc.Hi)).Hi < x {
			t.Errorf("Sin of Arcsin of %d", x)
		}
	}
}

// P1.9
func TestSquareOfRoot(t *testing.T) {
	ok := must(t)
	r := rand.New(rand.NewSource(11))
	for i := range 5000 {
		v := r.Intn(api.MaxValue + 1)
		if i < 3 {
			v = []int{0, 1, api.MaxValue - 11}[i]
		}
		root := ok(Root(whole.Only(v)))
		square, e := Times(root, root)
		if e == api.ErrRange && v > api.MaxValue-12 { // the greatest squares are not values
			continue
		}
		if e != api.OK || !holds(square, whole.Only(v)) {
			t.Errorf("the square of the root of %d: %v, %d", v, square, e)
		}
	}
}

// P1.10
func TestInclusion(t *testing.T) {
	r := rand.New(rand.NewSource(12))
	within := func(x api.Encl) api.Encl {
		a, b := x.Lo+r.Intn(x.Hi-x.Lo+1), x.Lo+r.Intn(x.Hi-x.Lo+1)
		return encl(min(a, b), max(a, b))
	}
	for range 3000 {
		x, y := randomEncl(r), randomEncl(r)
		for i, do := range []operation{Plus, Minus, Times, Over} {
			all, e := do(x, y)
			if e != api.OK {
				continue
			}
			if part, f := do(within(x), within(y)); f != api.OK || !holds(all, part) {
				t.Errorf("%d: part of %v and %v: %v, %d", i, x, y, part, f)
			}
		}
		for i, of := range []func(api.Encl) (api.Encl, api.Errno){SinOf, CosOf, Arccos, Arcsin, Root} {
			all, e := of(x)
			if e != api.OK {
				continue
			}
			if part, f := of(within(x)); f != api.OK || !holds(all, part) {
				t.Errorf("%d: part of %v: %v, %d", i, x, part, f)
			}
		}
	}
}

// P1.12
func TestAnyArgument(t *testing.T) {
	numbers := []int{0, 1, -1, api.One, -api.One, api.One + 1, api.MaxValue, -api.MaxValue, api.MaxValue + 1, api.MaxAngle, -api.MaxAngle, api.MaxAngle + 1, 1 << 32, -1 << 32, 1 << 62, -1 << 62, math.MaxInt, math.MinInt, math.MaxInt - 1, math.MinInt + 1}
	var list []api.Encl
	for _, a := range numbers {
		for _, b := range numbers {
			list = append(list, encl(a, b))
			Write(a, b)
		}
		Sin(a)
		Cos(a)
	}
	check := func(x api.Encl, e api.Errno) {
		if e != api.OK && x != encl(0, 0) || x.Lo > x.Hi {
			t.Errorf("%v, %d", x, e)
		}
	}
	for _, x := range list {
		for _, of := range []func(api.Encl) (api.Encl, api.Errno){SinOf, CosOf, Arccos, Arcsin, Root} {
			check(of(x))
		}
		for _, y := range list {
			for _, do := range []operation{Plus, Minus, Times, Over} {
				check(do(x, y))
			}
		}
	}
}
