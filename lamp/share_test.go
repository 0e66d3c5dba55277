package lamp

import (
	"math"
	"math/big"
	"math/rand"
	"slices"
	"testing"

	"linkboy/api"
)

// slowShare reckons the share of a table as the chapter says it, with large integers.
func slowShare(t api.LmTable, split int) api.Encl {
	var lo, hi big.Int
	for i := range len(t.Us) - 1 {
		for k := range len(t.Vs) - 1 {
			corners := []int{t.Values[i][k], t.Values[i+1][k], t.Values[i][k+1], t.Values[i+1][k+1]}
			for a := range split {
				for b := range split {
					u0, u1 := slowPart(t.Us, i, a, split), slowPart(t.Us, i, a+1, split)
					v0, v1 := slowPart(t.Vs, k, b, split), slowPart(t.Vs, k, b+1, split)
					least, most := slowSquares(u0, u1)
					leastV, mostV := slowSquares(v0, v1)
					area := big.NewInt(int64((u1 - u0) * (v1 - v0) * 1000))
					lo.Add(&lo, slowQuotient(slices.Min(corners), area, 1000000+most+mostV, true))
					hi.Add(&hi, slowQuotient(slices.Max(corners), area, 1000000+least+leastV, false))
				}
			}
		}
	}
	down, _ := new(big.Int).DivMod(&lo, big.NewInt(1000), new(big.Int))
	up, rest := new(big.Int).DivMod(&hi, big.NewInt(1000), new(big.Int))
	if rest.Sign() > 0 {
		up.Add(up, big.NewInt(1))
	}
	return x(int(down.Int64()), int(up.Int64()))
}

// slowPart returns the first tangent of a part of a field; quotients are those of numbers from 0 on.
func slowPart(tangents []int, at, part, split int) int {
	return tangents[at] + (tangents[at+1]-tangents[at])*part/split
}

func slowSquares(from, to int) (least, most int) {
	least, most = from*from, from*from
	for n := from; n <= to; n++ {
		least, most = min(least, n*n), max(most, n*n)
	}
	return least, most
}

// slowQuotient returns value times area by the cube of the square root of square; for the least one the root is rounded up and the quotient down, otherwise it is the other way round.
func slowQuotient(value int, area *big.Int, square int, isLeast bool) *big.Int {
	root := new(big.Int).Sqrt(big.NewInt(int64(square)))
	if isLeast && new(big.Int).Mul(root, root).Cmp(big.NewInt(int64(square))) < 0 {
		root.Add(root, big.NewInt(1))
	}
	cube := new(big.Int).Exp(root, big.NewInt(3), nil)
	q, rest := new(big.Int).DivMod(new(big.Int).Mul(area, big.NewInt(int64(value))), cube, new(big.Int))
	if !isLeast && rest.Sign() > 0 {
		q.Add(q, big.NewInt(1))
	}
	return q
}

// P2.5
func TestShare(t *testing.T) {
	one := wide()
	one.Name = "one"
	one.Us, one.Vs, one.Values = []int{-1, 0}, []int{0, 1}, [][]int{{7, 8}, {9, 10}}
	c := example()
	c.Tables = append(c.Tables, one)
	for _, test := range []struct {
		table, split int
		want         api.Encl
		e            api.Errno
	}{
		{0, 1, slowShare(wide(), 1), api.OK}, {0, 2, slowShare(wide(), 2), api.OK}, {0, 3, slowShare(wide(), 3), api.OK}, {0, 4, slowShare(wide(), 4), api.OK},
		// a part has the area 1 or 0, and a root above 1000: 10 for a million is nothing, or one
		{1, 1, x(0, 1), api.OK}, {1, 4, x(0, 1), api.OK},
		{2, 0, x(0, 0), api.ErrNone}, {-1, 1, x(0, 0), api.ErrNone}, {math.MinInt, 1, x(0, 0), api.ErrNone},
		{0, 0, x(0, 0), api.ErrRange}, {0, 5, x(0, 0), api.ErrRange}, {0, -1, x(0, 0), api.ErrRange}, {0, math.MaxInt, x(0, 0), api.ErrRange},
	} {
		if got, e := Share(c, test.table, test.split); got != test.want || e != test.e {
			t.Errorf("Share(%d, %d) = %v, %d, want %v, %d", test.table, test.split, got, e, test.want, test.e)
		}
	}
	if got, e := Share(broken(), 3, 0); got != x(0, 0) || e != api.ErrNone {
		t.Errorf("a catalogue with an error: %v, %d", got, e)
	}
	if got, e := Share(many(11, 0), 30, 0); got != x(0, 0) || e != api.ErrLong {
		t.Errorf("a catalogue with an error: %v, %d", got, e)
	}
}

// P2.5: a field of the same value everywhere, by hand.
func TestShareOfOneField(t *testing.T) {
	c := example()
	c.Tables[0].Us, c.Tables[0].Vs = []int{-1000, 1000}, []int{-1000, 1000}
	c.Tables[0].Values = [][]int{{1000000, 1000000}, {1000000, 1000000}}
	for split, want := range map[int]api.Encl{
		// 4 * 10^15 by 1733^3, and by 1000^3: in millionths 768535.6 and 4000000
		1: x(768, 4000),
		// in each quarter 10^15 by 1733^3, and by 1000^3
		2: x(768, 4000),
	} {
		if got, e := Share(c, 0, split); got != want || e != api.OK {
			t.Errorf("Share with %d = %v, %d, want %v", split, got, e, want)
		}
	}
}

// P2.5, P2.11
func TestShareOfRandomTables(t *testing.T) {
	r := rand.New(rand.NewSource(25))
	for range 150 {
		table := randomTable(r, "t")
		c := api.LmCatalog{Tables: []api.LmTable{table}}
		var shares [5]api.Encl
		for split := 1; split <= 4; split++ {
			got, e := Share(c, 0, split)
			if want := slowShare(table, split); got != want || e != api.OK {
				t.Fatalf("Share(%v, %d) = %v, %d, want %v", table, split, got, e, want)
			}
			shares[split] = got
		}
		fields := (len(table.Us) - 1) * (len(table.Vs) - 1)
		for _, pair := range [][2]int{{1, 2}, {1, 3}, {1, 4}, {2, 4}} {
			few, many := shares[pair[0]], shares[pair[1]]
			slack := 2*fields*pair[1]*pair[1]/1000 + 2
			if !holds(few, many, slack) {
				t.Errorf("the shares of %v for %v are %v and %v", table, pair, few, many)
			}
		}
	}
}

// P2.5: the greatest numbers are not too great.
func TestShareOfTheBrightestTable(t *testing.T) {
	c := example()
	c.Tables[0].Us, c.Tables[0].Vs = []int{-5000, 5000}, []int{-5000, 5000}
	c.Tables[0].Values = [][]int{{10000000, 10000000}, {10000000, 10000000}}
	for split := 1; split <= 4; split++ {
		if got, e := Share(c, 0, split); got != slowShare(c.Tables[0], split) || e != api.OK || got.Hi < 10000 {
			t.Errorf("Share with %d = %v, %d", split, got, e)
		}
	}
}

// P2.11
func TestShareOfADarkerTable(t *testing.T) {
	r := rand.New(rand.NewSource(211))
	for range 300 {
		bright := randomTable(r, "bright")
		dark := bright
		dark.Name = "dark"
		dark.Values = nil
		for _, row := range bright.Values {
			var darker []int
			for _, value := range row {
				darker = append(darker, r.Intn(value+1))
			}
			dark.Values = append(dark.Values, darker)
		}
		c := api.LmCatalog{Tables: []api.LmTable{bright, dark}}
		split := 1 + r.Intn(4)
		a, _ := Share(c, 0, split)
		b, _ := Share(c, 1, split)
		if b.Lo > a.Lo || b.Hi > a.Hi {
			t.Errorf("the shares of %v are %v and %v", c.Tables, a, b)
		}
	}
}
