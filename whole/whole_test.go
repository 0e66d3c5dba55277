package whole

import (
	"math"
	"math/big"
	"math/rand"
	"testing"

	"linkboy/api"
)

func TestQuotients(t *testing.T) {
	for _, c := range []struct{ a, b, down, up int }{
		{7, 2, 3, 4}, {-7, 2, -4, -3}, {6, 2, 3, 3}, {-6, 2, -3, -3}, {0, 5, 0, 0}, {1, 5, 0, 1}, {-1, 5, -1, 0}, {4, 5, 0, 1}, {5, 1, 5, 5}, {math.MaxInt, 1, math.MaxInt, math.MaxInt}, {math.MinInt, 1, math.MinInt, math.MinInt}, {math.MinInt, math.MaxInt, -2, -1},
	} {
		if down, up := Down(c.a, c.b), Up(c.a, c.b); down != c.down || up != c.up {
			t.Errorf("%d by %d: %d, %d", c.a, c.b, down, up)
		}
		if q := Quotient(c.a, c.b); q != (api.Encl{Lo: c.down, Hi: c.up}) {
			t.Errorf("Quotient(%d, %d) = %v", c.a, c.b, q)
		}
	}
	if q := Quotient(7, -2); q != (api.Encl{Lo: -4, Hi: -3}) {
		t.Errorf("Quotient(7, -2) = %v", q)
	}
	if q := Quotient(-7, -2); q != (api.Encl{Lo: 3, Hi: 4}) {
		t.Errorf("Quotient(-7, -2) = %v", q)
	}
}

func TestEnclosures(t *testing.T) {
	if x := Join(Only(3), Only(-4), api.Encl{Lo: 0, Hi: 9}); x != (api.Encl{Lo: -4, Hi: 9}) {
		t.Errorf("Join = %v", x)
	}
	if x := Join(Only(3)); x != (api.Encl{Lo: 3, Hi: 3}) {
		t.Errorf("Join = %v", x)
	}
	if x := Add(api.Encl{Lo: 3, Hi: 5}, api.Encl{Lo: -4, Hi: 90}); x != (api.Encl{Lo: -1, Hi: 95}) {
		t.Errorf("Add = %v", x)
	}
	if x := Less(api.Encl{Lo: 3, Hi: 5}, api.Encl{Lo: -4, Hi: 90}); x != (api.Encl{Lo: -87, Hi: 9}) {
		t.Errorf("Less = %v", x)
	}
	if x := Multiple(api.Encl{Lo: -3, Hi: 5}, 4); x != (api.Encl{Lo: -12, Hi: 20}) {
		t.Errorf("Multiple = %v", x)
	}
	for _, c := range []struct {
		lo, hi int
		want   bool
	}{{-1, 2, true}, {0, 0, true}, {2, 2, true}, {-2, 0, false}, {0, 3, false}, {1, 0, false}, {math.MinInt, math.MaxInt, false}} {
		if got := IsWithin(api.Encl{Lo: c.lo, Hi: c.hi}, -1, 2); got != c.want {
			t.Errorf("IsWithin(%d to %d) = %v", c.lo, c.hi, got)
		}
	}
}

func TestRanges(t *testing.T) {
	for _, c := range []struct {
		n    int
		want bool
	}{{-1, true}, {0, true}, {2, true}, {-2, false}, {3, false}, {math.MinInt, false}, {math.MaxInt, false}} {
		if got := IsFrom(c.n, -1, 2); got != c.want {
			t.Errorf("IsFrom(%d) = %v", c.n, got)
		}
		if got := AreFrom([]int{0, c.n, 1}, -1, 2); got != c.want {
			t.Errorf("AreFrom with %d = %v", c.n, got)
		}
	}
	for _, n := range []int{-1, 0, 2, 3, math.MinInt, math.MaxInt} {
		if got := IsIndex(n, 3); got != (n == 0 || n == 2) {
			t.Errorf("IsIndex(%d, 3) = %v", n, got)
		}
	}
	if IsIndex(0, 0) || IsIndex(-1, 0) {
		t.Error("an empty list has an index")
	}
	if !AreFrom(nil, 1, 0) {
		t.Error("a number of no list is not in the range")
	}
}

func TestRoot(t *testing.T) {
	numbers := []int{0, 1, 2, 3, 4, 8, 9, 10, 1 << 60, 1<<60 - 1, 1 << 62, 1<<62 - 1, 1<<62 - 1<<31}
	r := rand.New(rand.NewSource(1))
	for range 20000 {
		n := r.Intn(1 << 31)
		numbers = append(numbers, n, r.Intn(1<<62), n*n, n*n+1, max(0, n*n-1))
	}
	for _, n := range numbers {
		down := int(new(big.Int).Sqrt(big.NewInt(int64(n))).Int64())
		want := api.Encl{Lo: down, Hi: down + 1}
		if down*down == n {
			want.Hi = down
		}
		if got := Root(n); got != want {
			t.Errorf("Root(%d) = %v, want %v", n, got, want)
		}
	}
}
