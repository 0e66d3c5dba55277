package lamp

import (
	"math"
	"math/big"
	"math/rand"
	"testing"

	"linkboy/api"
	"linkboy/whole"
)

// P2.3
func TestIntensity(t *testing.T) {
	for _, test := range []struct {
		table, dx, dy, h int
		want             api.Encl
		e                api.Errno
	}{
		{0, 0, 0, 8000, x(400, 400), api.OK}, {0, -4000, 0, 8000, x(300, 300), api.OK}, {0, 1000, 500, 3000, x(370, 372), api.OK}, {0, 0, 8001, 8000, x(0, 50), api.OK},
		// the ends of the table are in it
		{0, -8000, -8000, 8000, x(100, 100), api.OK}, {0, -8000, 8000, 8000, x(300, 300), api.OK}, {0, 0, -8000, 8000, x(200, 200), api.OK}, {0, 16000, 8000, 8000, x(100, 100), api.OK}, {0, 16000, -8000, 8000, x(0, 0), api.OK},
		{0, -8001, 0, 8000, x(0, 50), api.OK}, {0, 16001, 0, 8000, x(0, 50), api.OK}, {0, 0, -8001, 8000, x(0, 50), api.OK},
		// both rows are rounded before what is between them
		{0, -1, 1, 3, x(388, 390), api.OK}, {0, 1, 1, 3, x(399, 401), api.OK}, {0, 1, -1, 3, x(283, 284), api.OK}, {0, 5, 2, 7, x(316, 318), api.OK},
		{0, 200000, 200000, 1, x(0, 50), api.OK}, {0, -200000, -200000, 30000, x(0, 50), api.OK}, {0, 30000, 0, 30000, x(225, 225), api.OK},
		{1, 0, 0, 8000, x(0, 0), api.ErrNone}, {-1, 0, 0, 0, x(0, 0), api.ErrNone}, {math.MaxInt, 0, 0, 1, x(0, 0), api.ErrNone},
		{0, 0, 0, 0, x(0, 0), api.ErrRange}, {0, 0, 0, 30001, x(0, 0), api.ErrRange}, {0, 0, 0, -1, x(0, 0), api.ErrRange},
		{0, 200001, 0, 1, x(0, 0), api.ErrRange}, {0, -200001, 0, 1, x(0, 0), api.ErrRange}, {0, 0, 200001, 1, x(0, 0), api.ErrRange}, {0, 0, -200001, 1, x(0, 0), api.ErrRange}, {0, math.MinInt, math.MaxInt, 1, x(0, 0), api.ErrRange},
	} {
		if got, e := Intensity(example(), test.table, test.dx, test.dy, test.h); got != test.want || e != test.e {
			t.Errorf("Intensity(%d, %d, %d, %d) = %v, %d, want %v, %d", test.table, test.dx, test.dy, test.h, got, e, test.want, test.e)
		}
	}
	if got, e := Intensity(broken(), 3, 0, 0, 0); got != x(0, 0) || e != api.ErrNone {
		t.Errorf("a catalogue with an error: %v, %d", got, e)
	}
	if got, e := Intensity(many(11, 0), 30, 0, 0, 0); got != x(0, 0) || e != api.ErrLong {
		t.Errorf("a catalogue with an error: %v, %d", got, e)
	}
}

// P2.4
func TestOver(t *testing.T) {
	const most = math.MaxInt
	for _, test := range []struct {
		table int
		r     api.LmRect
		h     int
		want  api.Encl
		e     api.Errno
	}{
		{0, api.LmRect{X0: -4000, X1: 4000, Y0: 0, Y1: 8000}, 8000, x(300, 600), api.OK},
		{0, api.LmRect{X0: -9000, X1: 0, Y0: 0, Y1: 0}, 8000, x(0, 400), api.OK},
		// one point
		{0, api.LmRect{}, 8000, x(400, 400), api.OK},
		{0, api.LmRect{X0: 1000, X1: 1000, Y0: 500, Y1: 500}, 3000, x(370, 372), api.OK},
		{0, api.LmRect{X0: 0, X1: 0, Y0: 8001, Y1: 8001}, 8000, x(0, 50), api.OK},
		// the whole table, and more
		{0, api.LmRect{X0: -8000, X1: 16000, Y0: -8000, Y1: 8000}, 8000, x(0, 600), api.OK},
		{0, api.LmRect{X0: -200000, X1: 200000, Y0: -200000, Y1: 200000}, 1, x(0, 600), api.OK},
		{0, api.LmRect{X0: -200000, X1: 200000, Y0: 0, Y1: 0}, 8000, x(0, 400), api.OK},
		{0, api.LmRect{X0: -1000, X1: 1000, Y0: -200000, Y1: -7999}, 8000, x(0, 201), api.OK},
		// beside the table, and at its edge
		{0, api.LmRect{X0: -200000, X1: -8001, Y0: -200000, Y1: 200000}, 8000, x(0, 50), api.OK},
		{0, api.LmRect{X0: -200000, X1: -8000, Y0: -200000, Y1: 200000}, 8000, x(0, 300), api.OK},
		{0, api.LmRect{X0: -8000, X1: -8000, Y0: -8000, Y1: 8000}, 8000, x(100, 300), api.OK},
		{0, api.LmRect{X0: -8000, X1: -8000, Y0: -8000, Y1: 8001}, 8000, x(0, 300), api.OK},
		{0, api.LmRect{X0: 16000, X1: 200000, Y0: 8000, Y1: 200000}, 8000, x(0, 100), api.OK},
		{1, api.LmRect{X0: 1}, 0, x(0, 0), api.ErrNone}, {-1, api.LmRect{X0: 1}, 0, x(0, 0), api.ErrNone},
		{0, api.LmRect{X0: 1}, 0, x(0, 0), api.ErrRange}, {0, api.LmRect{X0: 1}, 30001, x(0, 0), api.ErrRange},
		{0, api.LmRect{X0: -200001}, 1, x(0, 0), api.ErrRange}, {0, api.LmRect{X0: 1, X1: -most}, 1, x(0, 0), api.ErrRange},
		{0, api.LmRect{Y0: 200001}, 1, x(0, 0), api.ErrRange}, {0, api.LmRect{Y1: 200001, X0: 1}, 1, x(0, 0), api.ErrRange},
		{0, api.LmRect{X0: 1}, 30000, x(0, 0), api.ErrArg}, {0, api.LmRect{Y0: 1}, 1, x(0, 0), api.ErrArg}, {0, api.LmRect{X1: 5, Y0: -1, Y1: -2}, 1, x(0, 0), api.ErrArg},
	} {
		if got, e := Over(example(), test.table, test.r, test.h); got != test.want || e != test.e {
			t.Errorf("Over(%d, %v, %d) = %v, %d, want %v, %d", test.table, test.r, test.h, got, e, test.want, test.e)
		}
	}
	if got, e := Over(broken(), 3, api.LmRect{X0: 1}, 0); got != x(0, 0) || e != api.ErrNone {
		t.Errorf("a catalogue with an error: %v, %d", got, e)
	}
	if got, e := Over(many(11, 0), 30, api.LmRect{X0: 1}, 0); got != x(0, 0) || e != api.ErrLong {
		t.Errorf("a catalogue with an error: %v, %d", got, e)
	}
}

// P2.4: a bright tangent in the middle is found, and a bright side is no part of what is in the table.
func TestOverFindsWhatIsBetween(t *testing.T) {
	c := example()
	c.Tables[0].Us, c.Tables[0].Vs = []int{-10, 0, 10}, []int{-10, 0, 10}
	c.Tables[0].Values = [][]int{{5, 5, 5}, {5, 999, 5}, {5, 5, 5}}
	c.Tables[0].Side = 2000
	for _, test := range []struct {
		r    api.LmRect
		want api.Encl
	}{
		{api.LmRect{X0: -10, X1: 10, Y0: -10, Y1: 10}, x(5, 999)},
		{api.LmRect{X0: -5, X1: 5, Y0: -5, Y1: 5}, x(253, 999)},
		{api.LmRect{X0: -10, X1: 10, Y0: -10, Y1: 11}, x(0, 2000)},
		{api.LmRect{X0: -11, X1: 10, Y0: -10, Y1: 10}, x(0, 2000)},
		{api.LmRect{X0: 5, X1: 10, Y0: -10, Y1: 10}, x(5, 502)},
	} {
		if got, e := Over(c, 0, test.r, 1000); got != test.want || e != api.OK {
			t.Errorf("Over(%v) = %v, %d, want %v", test.r, got, e, test.want)
		}
	}
}

// fieldOf returns the index of the last tangent but one that is at most x, or 0.
func fieldOf(tangents []int, x *big.Rat) int {
	for i := len(tangents) - 2; i > 0; i-- {
		if x.Cmp(big.NewRat(int64(tangents[i]), 1)) >= 0 {
			return i
		}
	}
	return 0
}

// exact returns the interpolated number in the direction of a point, without rounding, and the values around it, or reports that it is not in the table.
func exact(t api.LmTable, dx, dy, h int) (n *big.Rat, around api.Encl, isIn bool) {
	u, v := big.NewRat(int64(1000*dx), int64(h)), big.NewRat(int64(1000*dy), int64(h))
	i, k := fieldOf(t.Us, u), fieldOf(t.Vs, v)
	// how far x is from the first tangent to the next one, from 0 to 1
	part := func(tangents []int, at int, x *big.Rat) (*big.Rat, bool) {
		from, width := big.NewRat(int64(tangents[at]), 1), big.NewRat(int64(tangents[at+1]-tangents[at]), 1)
		p := new(big.Rat).Quo(new(big.Rat).Sub(x, from), width)
		return p, p.Sign() >= 0 && p.Cmp(big.NewRat(1, 1)) <= 0
	}
	p, isAcross := part(t.Us, i, u)
	q, isAlong := part(t.Vs, k, v)
	if !isAcross || !isAlong {
		return nil, api.Encl{}, false
	}
	n = new(big.Rat)
	one := big.NewRat(1, 1)
	around = whole.Only(t.Values[i][k])
	for a, p := range []*big.Rat{new(big.Rat).Sub(one, p), p} {
		for b, q := range []*big.Rat{new(big.Rat).Sub(one, q), q} {
			value := t.Values[i+a][k+b]
			around = whole.Join(around, whole.Only(value))
			weight := new(big.Rat).Mul(p, q)
			n.Add(n, weight.Mul(weight, big.NewRat(int64(value), 1)))
		}
	}
	return n, around, true
}

// contains reports whether a number is in an enclosure.
func contains(a api.Encl, n *big.Rat) bool {
	return n.Cmp(big.NewRat(int64(a.Lo), 1)) >= 0 && n.Cmp(big.NewRat(int64(a.Hi), 1)) <= 0
}

// randomPlace returns a height and a point, near the table or far from it.
func randomPlace(r *rand.Rand, t api.LmTable) (dx, dy, h int) {
	h = []int{1 + r.Intn(10), 1000 * (1 + r.Intn(30)), 1 + r.Intn(30000)}[r.Intn(3)]
	offset := func(tangents []int) int {
		switch r.Intn(4) {
		case 0:
			return r.Intn(400001) - 200000
		case 1: // near a tangent of the table
			return tangents[r.Intn(len(tangents))]*h/1000 + r.Intn(3) - 1
		}
		first, last := tangents[0]*h/1000, tangents[len(tangents)-1]*h/1000
		return first + r.Intn(last-first+1)
	}
	return offset(t.Us), offset(t.Vs), h
}

// P2.9, P2.10
func TestIntensityHoldsTheExactNumber(t *testing.T) {
	r := rand.New(rand.NewSource(29))
	inside := 0
	for range 20000 {
		table := randomTable(r, "t")
		c := api.LmCatalog{Tables: []api.LmTable{table}}
		dx, dy, h := randomPlace(r, table)
		got, e := Intensity(c, 0, dx, dy, h)
		n, around, isIn := exact(table, dx, dy, h)
		switch {
		case e != api.OK:
			t.Fatalf("Intensity(%v, %d, %d, %d): %d", table, dx, dy, h, e)
		case !isIn && got != x(0, table.Side):
			t.Fatalf("Intensity(%v, %d, %d, %d) = %v", table, dx, dy, h, got)
		case isIn && (!contains(got, n) || !holds(around, got, 0) || got.Hi-got.Lo > 3):
			t.Fatalf("Intensity(%v, %d, %d, %d) = %v, want %v, within %v", table, dx, dy, h, got, n, around)
		}
		if isIn {
			inside++
		}
	}
	if inside < 5000 {
		t.Errorf("only %d points are in the table", inside)
	}
}

// P2.9
func TestIntensityAtTangents(t *testing.T) {
	r := rand.New(rand.NewSource(290))
	for range 300 {
		table := randomTable(r, "t")
		c := api.LmCatalog{Tables: []api.LmTable{table}}
		for i, u := range table.Us {
			for k, v := range table.Vs {
				h := 1000 * (1 + r.Intn(30))
				got, e := Intensity(c, 0, u*h/1000, v*h/1000, h)
				if e != api.OK || got != whole.Only(table.Values[i][k]) {
					t.Fatalf("at %d, %d of %v: %v, %d", u, v, table, got, e)
				}
			}
		}
	}
}

// P2.10
func TestOverHoldsEachPointAndPart(t *testing.T) {
	r := rand.New(rand.NewSource(210))
	for range 3000 {
		table := randomTable(r, "t")
		c := api.LmCatalog{Tables: []api.LmTable{table}}
		ax, ay, h := randomPlace(r, table)
		bx, by, _ := randomPlace(r, table)
		rect := api.LmRect{X0: min(ax, bx), X1: max(ax, bx), Y0: min(ay, by), Y1: max(ay, by)}
		rect.X1, rect.Y1 = min(rect.X1, 200000), min(rect.Y1, 200000)
		all, e := Over(c, 0, rect, h)
		if e != api.OK {
			t.Fatalf("Over(%v, %v, %d): %d", table, rect, h, e)
		}
		for range 10 {
			dx, dy := rect.X0+r.Intn(rect.X1-rect.X0+1), rect.Y0+r.Intn(rect.Y1-rect.Y0+1)
			point, e := Intensity(c, 0, dx, dy, h)
			if e != api.OK || !holds(all, point, 1) {
				t.Fatalf("Over(%v, %v, %d) = %v, but %v at %d, %d", table, rect, h, all, point, dx, dy)
			}
			if n, _, isIn := exact(table, dx, dy, h); isIn && !contains(all, n) {
				t.Fatalf("Over(%v, %v, %d) = %v, but %v at %d, %d", table, rect, h, all, n, dx, dy)
			}
		}
		near, far := rect, rect
		cut := rect.X0 + r.Intn(rect.X1-rect.X0+1)
		near.X1, far.X0 = cut, cut
		a, _ := Over(c, 0, near, h)
		b, _ := Over(c, 0, far, h)
		hull := whole.Join(a, b)
		if !holds(all, hull, 1) || !holds(hull, all, 0) {
			t.Fatalf("Over(%v, %v, %d) = %v, but %v and %v for its halves at %d", table, rect, h, all, a, b, cut)
		}
	}
}
