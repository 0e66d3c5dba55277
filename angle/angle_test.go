package angle

import (
	"math"
	"math/rand"
	"testing"

	"linkboy/api"
	"linkboy/whole"
)

const degree = api.Degree

// encl returns an enclosure.
func encl(lo, hi int) api.Encl { return api.Encl{Lo: lo, Hi: hi} }

// someAngles returns angles of all kinds: ends, multiples of 15 degrees and their neighbours, ones whose sines are nearest to hundred-millionths, and random ones.
func someAngles(random int) []int {
	list := []int{7915146, 16523657, 25601556, 29531803, 83097305, 89999999, -25601556, 180*degree + 83097305}
	for a := -api.MaxAngle; a <= api.MaxAngle; a += 15 * degree {
		for d := -1; d <= 1; d++ {
			if -api.MaxAngle <= a+d && a+d <= api.MaxAngle {
				list = append(list, a+d)
			}
		}
	}
	r := rand.New(rand.NewSource(2))
	for range random {
		list = append(list, r.Intn(2*api.MaxAngle+1)-api.MaxAngle)
	}
	return list
}

// notAngles are numbers that are not angles.
var notAngles = []int{api.MaxAngle + 1, -api.MaxAngle - 1, 1 << 62, math.MaxInt, math.MinInt}

// P1.1
func TestSinAndCosExamples(t *testing.T) {
	for _, c := range []struct {
		a        int
		sin, cos api.Encl
	}{
		{0, encl(0, 0), encl(api.One, api.One)},
		{degree, encl(1745240, 1745241), encl(99984769, 99984770)},
		{30 * degree, encl(50000000, 50000000), encl(86602540, 86602541)},
		{45 * degree, encl(70710678, 70710679), encl(70710678, 70710679)},
		{60 * degree, encl(86602540, 86602541), encl(50000000, 50000000)},
		{90 * degree, encl(api.One, api.One), encl(0, 0)},
		{120 * degree, encl(86602540, 86602541), encl(-50000000, -50000000)},
		{180 * degree, encl(0, 0), encl(-api.One, -api.One)},
		{225 * degree, encl(-70710679, -70710678), encl(-70710679, -70710678)},
		{270 * degree, encl(-api.One, -api.One), encl(0, 0)},
		{-30 * degree, encl(-50000000, -50000000), encl(86602540, 86602541)},
		{-90 * degree, encl(-api.One, -api.One), encl(0, 0)},
		{450 * degree, encl(api.One, api.One), encl(0, 0)},
		{api.MaxAngle, encl(0, 0), encl(api.One, api.One)},
		{-api.MaxAngle, encl(0, 0), encl(api.One, api.One)},
		{1, encl(1, 2), encl(99999999, api.One)},
		{-1, encl(-2, -1), encl(99999999, api.One)},
		{api.MaxAngle - 1, encl(-2, -1), encl(99999999, api.One)},
	} {
		if s, e := Sin(c.a); s != c.sin || e != api.OK {
			t.Errorf("Sin(%d) = %v, %d, want %v", c.a, s, e, c.sin)
		}
		if s, e := Cos(c.a); s != c.cos || e != api.OK {
			t.Errorf("Cos(%d) = %v, %d, want %v", c.a, s, e, c.cos)
		}
	}
}

// P1.1
func TestSinAndCosAreLeast(t *testing.T) {
	for _, a := range someAngles(3000) {
		if s, e := Sin(a); s != oracle(t, a) || e != api.OK {
			t.Errorf("Sin(%d) = %v, %d, want %v", a, s, e, oracle(t, a))
		}
		if s, e := Cos(a); s != oracle(t, a+right) || e != api.OK {
			t.Errorf("Cos(%d) = %v, %d, want %v", a, s, e, oracle(t, a+right))
		}
	}
}

// P1.1
func TestSinAndCosRefuse(t *testing.T) {
	for _, a := range notAngles {
		if s, e := Sin(a); s != encl(0, 0) || e != api.ErrRange {
			t.Errorf("Sin(%d) = %v, %d", a, s, e)
		}
		if s, e := Cos(a); s != encl(0, 0) || e != api.ErrRange {
			t.Errorf("Cos(%d) = %v, %d", a, s, e)
		}
	}
}

// P1.2
func TestSinOfAndCosOfExamples(t *testing.T) {
	for _, c := range []struct{ a, sin, cos api.Encl }{
		{encl(45*degree, 135*degree), encl(70710678, api.One), encl(-70710679, 70710679)},
		{encl(0, 30*degree), encl(0, 50000000), encl(86602540, api.One)},
		{encl(0, 0), encl(0, 0), encl(api.One, api.One)},
		{encl(-60*degree, 30*degree), encl(-86602541, 50000000), encl(50000000, api.One)},
		{encl(90*degree, 270*degree), encl(-api.One, api.One), encl(-api.One, 0)},
		{encl(90*degree+1, 270*degree-1), encl(-api.One, api.One), encl(-api.One, -1)},
		{encl(91*degree, 269*degree), encl(-99984770, 99984770), encl(-api.One, -1745240)},
		{encl(-270*degree, -90*degree), encl(-api.One, api.One), encl(-api.One, 0)},
		{encl(0, 180*degree), encl(0, api.One), encl(-api.One, api.One)},
		{encl(180*degree, 360*degree), encl(-api.One, 0), encl(-api.One, api.One)},
		{encl(7, 360*degree+7), encl(-api.One, api.One), encl(-api.One, api.One)},
		{encl(100*degree, 460*degree-1), encl(-api.One, api.One), encl(-api.One, api.One)},
		{encl(-api.MaxAngle, api.MaxAngle), encl(-api.One, api.One), encl(-api.One, api.One)},
		{encl(api.MaxAngle-1, api.MaxAngle), encl(-2, 0), encl(99999999, api.One)},
		{encl(-api.MaxAngle, -api.MaxAngle+90*degree), encl(0, api.One), encl(0, api.One)},
	} {
		if s, e := SinOf(c.a); s != c.sin || e != api.OK {
			t.Errorf("SinOf(%v) = %v, %d, want %v", c.a, s, e, c.sin)
		}
		if s, e := CosOf(c.a); s != c.cos || e != api.OK {
			t.Errorf("CosOf(%v) = %v, %d, want %v", c.a, s, e, c.cos)
		}
	}
}

// P1.2
func TestSinOfAndCosOfAreLeast(t *testing.T) {
	angles := someAngles(200)
	for i, a := range angles {
		b := angles[(i*7+3)%len(angles)]
		span := encl(min(a, b), max(a, b))
		if i%2 == 0 { // most random ones hold a whole turn
			span.Hi = min(span.Hi, span.Lo+i*degree)
		}
		if s, e := SinOf(span); s != spanOracle(t, span) || e != api.OK {
			t.Errorf("SinOf(%v) = %v, %d, want %v", span, s, e, spanOracle(t, span))
		}
		shifted := encl(span.Lo+right, span.Hi+right)
		if s, e := CosOf(span); s != spanOracle(t, shifted) || e != api.OK {
			t.Errorf("CosOf(%v) = %v, %d, want %v", span, s, e, spanOracle(t, shifted))
		}
	}
}

// spanOracle returns the least enclosure of the sines of angles, looking at each multiple of a right angle in between.
func spanOracle(t *testing.T, a api.Encl) api.Encl {
	t.Helper()
	all := whole.Join(oracle(t, a.Lo), oracle(t, a.Hi))
	for k := -50; k <= 50; k++ {
		if m := k * right; a.Lo <= m && m <= a.Hi {
			all = whole.Join(all, oracle(t, m))
		}
	}
	return all
}

// P1.2
func TestSinOfAndCosOfRefuse(t *testing.T) {
	list := []api.Encl{encl(1, 0), encl(api.MaxAngle, -api.MaxAngle), encl(math.MaxInt, math.MinInt), encl(math.MinInt, math.MaxInt)}
	for _, a := range notAngles {
		list = append(list, encl(a, a), encl(0, a), encl(a, 0))
	}
	for _, a := range list {
		if s, e := SinOf(a); s != encl(0, 0) || e != api.ErrRange {
			t.Errorf("SinOf(%v) = %v, %d", a, s, e)
		}
		if s, e := CosOf(a); s != encl(0, 0) || e != api.ErrRange {
			t.Errorf("CosOf(%v) = %v, %d", a, s, e)
		}
	}
}

// P1.3
func TestArcsExamples(t *testing.T) {
	for _, c := range []struct{ x, cos, sin api.Encl }{
		{encl(50000000, api.One), encl(0, 60*degree), encl(30*degree, 90*degree)},
		{encl(70710678, 70710678), encl(45000000, 45000001), encl(44999999, 45000000)},
		{encl(70710679, 70710679), encl(44999999, 45000000), encl(45000000, 45000001)},
		{encl(-50000000, 50000000), encl(60*degree, 120*degree), encl(-30*degree, 30*degree)},
		{encl(-api.One, -api.One), encl(180*degree, 180*degree), encl(-90*degree, -90*degree)},
		{encl(api.One, api.One), encl(0, 0), encl(90*degree, 90*degree)},
		{encl(0, 0), encl(90*degree, 90*degree), encl(0, 0)},
		{encl(1, 1), encl(89999999, 90000000), encl(0, 1)},
		{encl(-1, -1), encl(90000000, 90000001), encl(-1, 0)},
		{encl(-api.One, api.One), encl(0, 180*degree), encl(-90*degree, 90*degree)},
		// between the greatest two sines there are 8102 angles
		{encl(99999999, 99999999), encl(8102, 8103), encl(89991897, 89991898)},
	} {
		if a, e := Arccos(c.x); a != c.cos || e != api.OK {
			t.Errorf("Arccos(%v) = %v, %d, want %v", c.x, a, e, c.cos)
		}
		if a, e := Arcsin(c.x); a != c.sin || e != api.OK {
			t.Errorf("Arcsin(%v) = %v, %d, want %v", c.x, a, e, c.sin)
		}
	}
}

// P1.3
func TestArcsAreLeast(t *testing.T) {
	r := rand.New(rand.NewSource(3))
	for range 1000 {
		x, y := r.Intn(2*api.One+1)-api.One, r.Intn(2*api.One+1)-api.One
		v := encl(min(x, y), max(x, y))
		a, e := Arcsin(v)
		if e != api.OK || !isArcsin(t, v, a) {
			t.Errorf("Arcsin(%v) = %v, %d", v, a, e)
		}
		a, e = Arccos(v)
		if e != api.OK || !isArcsin(t, v, encl(right-a.Hi, right-a.Lo)) {
			t.Errorf("Arccos(%v) = %v, %d", v, a, e)
		}
	}
}

// isArcsin reports by the oracle whether a is the least enclosure of the arc sines of v.
func isArcsin(t *testing.T, v, a api.Encl) bool {
	t.Helper()
	if a.Lo < -right || a.Hi > right || oracle(t, a.Lo).Hi > v.Lo || oracle(t, a.Hi).Lo < v.Hi {
		return false
	}
	isGreatest := a.Lo == right || oracle(t, a.Lo+1).Hi > v.Lo
	isLeast := a.Hi == -right || oracle(t, a.Hi-1).Lo < v.Hi
	return isGreatest && isLeast
}

// P1.3
func TestArcsRefuse(t *testing.T) {
	for _, x := range []api.Encl{encl(1, 0), encl(0, api.One+1), encl(-api.One-1, 0), encl(api.One+1, api.One+1), encl(api.One, -api.One), encl(math.MinInt, math.MaxInt), encl(math.MaxInt, math.MinInt), encl(math.MinInt, math.MinInt), encl(math.MaxInt, math.MaxInt)} {
		if a, e := Arccos(x); a != encl(0, 0) || e != api.ErrRange {
			t.Errorf("Arccos(%v) = %v, %d", x, a, e)
		}
		if a, e := Arcsin(x); a != encl(0, 0) || e != api.ErrRange {
			t.Errorf("Arcsin(%v) = %v, %d", x, a, e)
		}
	}
}
