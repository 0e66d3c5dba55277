package angle

import (
	"math/big"
	"math/rand"
	"runtime"
	"sync"
	"testing"

	"linkboy/api"
)

// oracleBits is how many bits behind the point the oracle has.
const oracleBits = 256

// oraclePi is pi times 2^oracleBits, by Machin's formula.
var oraclePi = new(big.Int).Sub(arcCotangent(5, 16), arcCotangent(239, 4))

// arcCotangent returns factor times the arc cotangent of n, in units of 2^-oracleBits.
func arcCotangent(n, factor int64) *big.Int {
	sum := new(big.Int)
	term := new(big.Int).Lsh(big.NewInt(factor), oracleBits+32)
	term.Quo(term, big.NewInt(n))
	for k := int64(0); term.Sign() != 0; k++ {
		part := new(big.Int).Quo(term, big.NewInt(2*k+1))
		if k%2 == 1 {
			part.Neg(part)
		}
		sum.Add(sum, part)
		term.Quo(term, big.NewInt(n*n))
	}
	return sum.Rsh(sum, 32)
}

// oracleSine returns the sine of an angle in units of 2^-oracleBits, with an error below 2^32 of them.
func oracleSine(a int) *big.Int {
	x := new(big.Int).Mul(oraclePi, big.NewInt(int64(a%(360*api.Degree))))
	x.Quo(x, big.NewInt(180*api.Degree))
	square := new(big.Int).Mul(x, x)
	square.Rsh(square, oracleBits)
	sum, term := new(big.Int), new(big.Int).Set(x)
	for k := int64(1); term.Sign() != 0; k++ {
		sum.Add(sum, term)
		term.Mul(term, square)
		term.Rsh(term, oracleBits)
		term.Quo(term, big.NewInt(-2*k*(2*k+1)))
		if term.CmpAbs(big.NewInt(1)) <= 0 {
			break
		}
	}
	return sum
}

// oracle returns the least enclosure of the sine of an angle.
func oracle(t *testing.T, a int) api.Encl {
	t.Helper()
	s := oracleSine(a)
	s.Mul(s, big.NewInt(api.One))
	slack := new(big.Int).Lsh(big.NewInt(1), 60)
	below := new(big.Int).Rsh(new(big.Int).Sub(s, slack), oracleBits)
	above := new(big.Int).Rsh(new(big.Int).Add(s, slack), oracleBits)
	if below.Cmp(above) == 0 {
		return api.Encl{Lo: int(below.Int64()), Hi: int(below.Int64()) + 1}
	}
	if a%(30*api.Degree) != 0 {
		t.Fatalf("the oracle does not know the sine of %d", a)
	}
	return api.Encl{Lo: int(above.Int64()), Hi: int(above.Int64())}
}

// seriesSlack is what series may be wrong by, as it says.
const seriesSlack = 8

// TestEveryAngleIsDecided shows that the least enclosures are right for all angles, if series is as exact as it says.
func TestEveryAngleIsDecided(t *testing.T) {
	var all sync.WaitGroup
	workers := runtime.GOMAXPROCS(0)
	for w := range workers {
		all.Add(1)
		go func() {
			defer all.Done()
			for a := w + 1; a < right; a += workers {
				s := series(uint64(a))
				if hundredMillionths(s-seriesSlack) != hundredMillionths(s+seriesSlack) && a != right/3 {
					t.Errorf("the sine of %d is not decided", a)
				}
			}
		}()
	}
	all.Wait()
}

// TestSeriesIsExact compares series with the oracle.
func TestSeriesIsExact(t *testing.T) {
	check := func(a int) {
		want := new(big.Int).Rsh(oracleSine(a), oracleBits-63)
		got := new(big.Int).SetUint64(series(uint64(a)))
		if d := got.Sub(got, want); d.CmpAbs(big.NewInt(seriesSlack)) >= 0 {
			t.Errorf("series(%d) is wrong by %v", a, d)
		}
	}
	for a := range 1000 {
		check(a)
		check(right - a)
	}
	r := rand.New(rand.NewSource(1))
	for range 20000 {
		check(r.Intn(right + 1))
	}
}
