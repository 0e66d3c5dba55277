package sun

import (
	"math"
	"testing"
	"time"

	"linkboy/api"
)

// dayZero is the day from which on days are counted.
var dayZero = time.Date(2000, 1, 1, 0, 0, 0, 0, time.UTC)

// extremes are numbers that are far beyond all limits.
var extremes = []int{math.MinInt, math.MinInt + 1, -1 << 40, 1 << 40, math.MaxInt - 1, math.MaxInt}

// P7.1: the examples, and the ends.
func TestDayAndDate(t *testing.T) {
	for _, c := range [][4]int{
		{2000, 1, 1, 0}, {2000, 3, 1, 60}, {2000, 2, 29, 59}, {2000, 12, 31, 365}, {2001, 1, 1, 366}, {2100, 2, 28, 36583}, {2100, 3, 1, 36584}, {2104, 2, 29, 38044}, {2109, 7, 8, 40000},
	} {
		if day, e := Day(c[0], c[1], c[2]); day != c[3] || e != api.OK {
			t.Errorf("Day(%v) = %d, %d", c, day, e)
		}
		if year, month, date, e := Date(c[3]); [4]int{year, month, date, c[3]} != c || e != api.OK {
			t.Errorf("Date(%d) = %d, %d, %d, %d", c[3], year, month, date, e)
		}
	}
}

// P7.1, P7.8: every day.
func TestEveryDay(t *testing.T) {
	for day := range 40001 {
		want := dayZero.AddDate(0, 0, day)
		year, month, date, e := Date(day)
		if year != want.Year() || month != int(want.Month()) || date != want.Day() || e != api.OK {
			t.Fatalf("Date(%d) = %d, %d, %d, %d, want %v", day, year, month, date, e, want)
		}
		if back, e := Day(year, month, date); back != day || e != api.OK {
			t.Fatalf("Day(%d, %d, %d) = %d, %d, want %d", year, month, date, back, e, day)
		}
	}
}

// P7.1: every date that there might be is one, or is refused.
func TestEveryDate(t *testing.T) {
	next := 0
	for year := 1990; year <= 2115; year++ {
		for month := -1; month <= 14; month++ {
			for date := -1; date <= 33; date++ {
				day, e := Day(year, month, date)
				real := time.Date(year, time.Month(month), date, 0, 0, 0, 0, time.UTC)
				exists := real.Year() == year && real.Month() == time.Month(month) && real.Day() == date
				if !exists || real.Before(dayZero) || real.After(dayZero.AddDate(0, 0, 40000)) {
					if day != 0 || e != api.ErrRange {
						t.Fatalf("Day(%d, %d, %d) = %d, %d", year, month, date, day, e)
					}
					continue
				}
				if day != next || e != api.OK {
					t.Fatalf("Day(%d, %d, %d) = %d, %d, want %d", year, month, date, day, e, next)
				}
				next++
			}
		}
	}
	if next != 40001 {
		t.Errorf("%d days", next)
	}
}

// P7.1
func TestDatesThatAreRefused(t *testing.T) {
	for _, c := range [][3]int{{1999, 12, 31}, {2109, 7, 9}, {2110, 1, 1}, {2100, 2, 29}, {2001, 2, 29}, {2000, 2, 30}, {2000, 4, 31}, {2000, 0, 1}, {2000, 13, 1}, {2000, 1, 0}, {2000, 1, 32}, {0, 1, 1}, {-2000, 1, 1}} {
		if day, e := Day(c[0], c[1], c[2]); day != 0 || e != api.ErrRange {
			t.Errorf("Day(%v) = %d, %d", c, day, e)
		}
	}
	for _, n := range extremes {
		for _, c := range [][3]int{{n, 1, 1}, {2000, n, 1}, {2000, 1, n}, {n, n, n}} {
			if day, e := Day(c[0], c[1], c[2]); day != 0 || e != api.ErrRange {
				t.Errorf("Day(%v) = %d, %d", c, day, e)
			}
		}
	}
	for _, day := range append([]int{-1, 40001}, extremes...) {
		if year, month, date, e := Date(day); year != 0 || month != 0 || date != 0 || e != api.ErrRange {
			t.Errorf("Date(%d) = %d, %d, %d, %d", day, year, month, date, e)
		}
	}
}

// wantEaster returns Easter Sunday of a year, by the golden number and the epact of its full moon.
func wantEaster(year int) time.Time {
	golden, century := year%19+1, year/100+1
	skipped, moon := 3*century/4-12, (8*century+5)/25-5
	sunday := 5*year/4 - skipped - 10
	epact := ((11*golden+20+moon-skipped)%30 + 30) % 30
	if epact == 25 && golden > 11 || epact == 24 {
		epact++
	}
	n := 44 - epact
	if n < 21 {
		n += 30
	}
	n += 7 - (sunday+n)%7
	return time.Date(year, 3, n, 0, 0, 0, 0, time.UTC)
}

// P7.1, P7.8: the examples, and every year.
func TestEaster(t *testing.T) {
	for year, want := range map[int]int{2000: 113, 2024: 8856, 2025: 9241} {
		if day, e := Easter(year); day != want || e != api.OK {
			t.Errorf("Easter(%d) = %d, %d, want %d", year, day, e, want)
		}
	}
	for year := 2000; year <= 2108; year++ {
		day, e := Easter(year)
		real := dayZero.AddDate(0, 0, day)
		if !real.Equal(wantEaster(year)) || e != api.OK {
			t.Errorf("Easter(%d) = %d, %d, which is %v, want %v", year, day, e, real, wantEaster(year))
		}
		if first, last := time.Date(year, 3, 22, 0, 0, 0, 0, time.UTC), time.Date(year, 4, 25, 0, 0, 0, 0, time.UTC); real.Weekday() != time.Sunday || real.Before(first) || real.After(last) {
			t.Errorf("Easter of %d is on %v", year, real)
		}
	}
	for _, year := range append([]int{0, 1999, 2109, -2000}, extremes...) {
		if day, e := Easter(year); day != 0 || e != api.ErrRange {
			t.Errorf("Easter(%d) = %d, %d", year, day, e)
		}
	}
}

// P7.8: the order of dates, and neighbours.
func TestOrderOfDates(t *testing.T) {
	lastYear, lastMonth, lastDate := 1999, 12, 31
	for day := range 40001 {
		year, month, date, _ := Date(day)
		isNext := year == lastYear && month == lastMonth && date == lastDate+1
		beginsMonth := year == lastYear && month == lastMonth+1 && date == 1 && lastDate >= 28
		beginsYear := year == lastYear+1 && month == 1 && date == 1 && lastMonth == 12 && lastDate == 31
		if !isNext && !beginsMonth && !beginsYear {
			t.Fatalf("%d-%d-%d is behind %d-%d-%d", year, month, date, lastYear, lastMonth, lastDate)
		}
		lastYear, lastMonth, lastDate = year, month, date
	}
}
