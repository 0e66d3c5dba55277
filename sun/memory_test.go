package sun

import (
	"math/rand"
	"slices"
	"testing"

	"linkboy/api"
)

// P7.14
func TestArgumentsAreNotModified(t *testing.T) {
	r := rand.New(rand.NewSource(7140))
	for range 300 {
		d, vehicles, light := randomDim(r, false), randomTraffic(r), randomSamples(r)
		l := feasts(randomFeast(r), api.SnFeast{Name: "z", Month: 1, Day: 1, Days: 3})
		wasRows, wasVehicles, wasLight, wasFeasts := slices.Clone(d.Rows), slices.Clone(vehicles), slices.Clone(light), slices.Clone(l)
		Dim(d, vehicles)
		Level(d, 7)
		Cell(randomCell(r), light)
		Feast(l, r.Intn(400))
		if !slices.Equal(d.Rows, wasRows) || !slices.Equal(vehicles, wasVehicles) || !slices.Equal(light, wasLight) || !slices.Equal(l, wasFeasts) {
			t.Fatalf("%v, %v, %v, %v became %v, %v, %v, %v", wasRows, wasVehicles, wasLight, wasFeasts, d.Rows, vehicles, light, l)
		}
	}
}

// P7.14: results are new memory.
func TestResultsAreNew(t *testing.T) {
	d, vehicles := dimming(), []int{50, 50, 600}
	c, light := api.SnCell{On: 10, Off: 20}, samples(0, 5, 10, 30)
	levels, _ := Dim(d, vehicles)
	switches, _ := Cell(c, light)
	levels[0], switches[0].Time = 7, 7
	if again, _ := Dim(d, vehicles); !slices.Equal(again, []int{600, 800, 1000}) || vehicles[0] != 50 {
		t.Errorf("Dim = %v, for %v", again, vehicles)
	}
	if again, _ := Cell(c, light); !slices.Equal(again, turns(0, 10)) || light[0].Time != 0 {
		t.Errorf("Cell = %v, for %v", again, light)
	}
}

// P7.14: any numbers are accepted.
func TestAnyArguments(t *testing.T) {
	r := rand.New(rand.NewSource(7141))
	numbers := append([]int{-172801, -172800, -1000000, -50400, -60, -1, 0, 1, 2, 12, 29, 60, 300, 1000, 1999, 2000, 2109, 3600, 40000, 50400, 100000, 88000000, 180000000, 1000000000, 86400 * 40002}, extremes...)
	any := func() int { return numbers[r.Intn(len(numbers))] }
	for range 30000 {
		c := api.SnCity{Lat: any(), Lon: any(), Zone: any(), Altitude: api.Encl{Lo: any(), Hi: any()}}
		if r.Intn(2) == 0 {
			c = edgeCities()[r.Intn(108)]
		}
		year, month, date, e := Date(any())
		if day, again := Day(year, month, date); e == api.OK && (again != e || day < 0) {
			t.Fatalf("Day(%d, %d, %d) = %d, %d", year, month, date, day, again)
		}
		Day(any(), any(), any())
		Easter(any())
		Check(c)
		Sun(any(), any())
		High(c, any())
		Set(c, any())
		Rise(c, any())
		Night(c, any())
		if r.Intn(100) == 0 { // it may take long
			Hours(c, any(), any())
		}
		Cell(api.SnCell{On: any(), Off: any(), OnAfter: any(), OffAfter: any()}, samples(any(), any(), any(), any())[:r.Intn(3)])
		Feast(feasts(api.SnFeast{Name: "a", Month: any(), Day: any(), Days: any()}, api.SnFeast{Name: "b", Day: any(), Days: any()})[r.Intn(2):], any())
		d := api.SnDim{Rows: rows(0, any(), any(), any())[:r.Intn(3)], Up: any(), Down: any()}
		Level(d, any())
		Dim(d, []int{any(), any()}[:r.Intn(3)])
	}
}
