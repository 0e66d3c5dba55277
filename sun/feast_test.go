package sun

import (
	"math/rand"
	"strings"
	"testing"
	"time"

	"linkboy/api"
)

func feasts(l ...api.SnFeast) []api.SnFeast { return l }

// indexOf checks which festival a day is one of.
func indexOf(t *testing.T, l []api.SnFeast, year, month, date, want int) {
	t.Helper()
	day, e := Day(year, month, date)
	if e != api.OK {
		t.Fatalf("Day(%d, %d, %d) = %d", year, month, date, e)
	}
	if i, e := Feast(l, day); i != want || e != api.OK {
		t.Errorf("Feast(%v, %d-%d-%d) = %d, %d, want %d", l, year, month, date, i, e, want)
	}
}

// P7.6: the examples.
func TestFeast(t *testing.T) {
	l := feasts(api.SnFeast{Name: "new-year", Month: 1, Day: 1, Days: 1}, api.SnFeast{Name: "easter", Days: 2})
	for day, want := range map[int]int{0: 0, 1: -1, 112: -1, 113: 1, 114: 1, 115: -1, 365: -1, 366: 0, 40000: -1} {
		if i, e := Feast(l, day); i != want || e != api.OK {
			t.Errorf("Feast(%d) = %d, %d, want %d", day, i, e, want)
		}
	}
	for _, l := range [][]api.SnFeast{nil, {}} {
		if i, e := Feast(l, 0); i != -1 || e != api.OK {
			t.Errorf("Feast(%v) = %d, %d", l, i, e)
		}
	}
}

// P7.6: festivals that last into the next year, leap days, days around Easter, and festivals on the same days.
func TestFeastDays(t *testing.T) {
	winter := feasts(api.SnFeast{Name: "winter", Month: 12, Day: 31, Days: 60})
	indexOf(t, winter, 2000, 1, 1, 0) // it began in 1999
	indexOf(t, winter, 2000, 2, 28, 0)
	indexOf(t, winter, 2000, 2, 29, -1)
	indexOf(t, winter, 2001, 2, 28, 0)
	indexOf(t, winter, 2001, 3, 1, -1)
	indexOf(t, winter, 2001, 12, 30, -1)
	indexOf(t, winter, 2001, 12, 31, 0)
	leap := feasts(api.SnFeast{Name: "leap", Month: 2, Day: 29, Days: 2})
	indexOf(t, leap, 2000, 2, 28, -1)
	indexOf(t, leap, 2000, 2, 29, 0)
	indexOf(t, leap, 2000, 3, 1, 0)
	indexOf(t, leap, 2000, 3, 2, -1)
	indexOf(t, leap, 2001, 2, 28, -1)
	indexOf(t, leap, 2001, 3, 1, -1)
	indexOf(t, leap, 2100, 3, 1, -1)
	indexOf(t, leap, 2104, 3, 1, 0)
	around := feasts(api.SnFeast{Name: "before", Day: -60, Days: 1}, api.SnFeast{Name: "after", Day: 60, Days: 60})
	indexOf(t, around, 2000, 2, 22, -1) // Easter is on April 23
	indexOf(t, around, 2000, 2, 23, 0)
	indexOf(t, around, 2000, 2, 24, -1)
	indexOf(t, around, 2000, 6, 21, -1)
	indexOf(t, around, 2000, 6, 22, 1)
	indexOf(t, around, 2000, 8, 20, 1)
	indexOf(t, around, 2000, 8, 21, -1)
	indexOf(t, feasts(api.SnFeast{Name: "last-easter", Days: 1}), 2109, 4, 21, 0)
	indexOf(t, feasts(api.SnFeast{Name: "last", Month: 7, Day: 8, Days: 1}), 2109, 7, 8, 0)
	both := feasts(api.SnFeast{Name: "long", Month: 5, Day: 1, Days: 9}, api.SnFeast{Name: "short", Month: 5, Day: 3, Days: 8})
	indexOf(t, both, 2030, 5, 4, 0)
	indexOf(t, both, 2030, 5, 10, 1)
	indexOf(t, both[1:], 2030, 5, 4, 0)
}

// wantFeast looks for a festival day by day.
func wantFeast(l []api.SnFeast, day int) int {
	today := dayZero.AddDate(0, 0, day)
	for i, f := range l {
		for year := today.Year() - 1; year <= today.Year(); year++ {
			begin := wantEaster(year).AddDate(0, 0, f.Day)
			if f.Month != 0 {
				begin = time.Date(year, time.Month(f.Month), f.Day, 0, 0, 0, 0, time.UTC)
				if begin.Day() != f.Day {
					continue
				}
			}
			for n := range f.Days {
				if begin.AddDate(0, 0, n).Equal(today) {
					return i
				}
			}
		}
	}
	return -1
}

func randomFeast(r *rand.Rand) api.SnFeast {
	f := api.SnFeast{Name: string(rune('a'+r.Intn(26))) + string(rune('a'+r.Intn(26))), Month: r.Intn(13), Day: r.Intn(121) - 60, Days: 1 + r.Intn(60)}
	if f.Month > 0 {
		f.Day = 1 + r.Intn([]int{31, 29, 31, 30, 31, 30, 31, 31, 30, 31, 30, 31}[f.Month-1])
	}
	if r.Intn(8) == 0 {
		f.Month, f.Day = 2, 29
	}
	return f
}

// P7.6: for random festivals.
func TestRandomFeasts(t *testing.T) {
	r := rand.New(rand.NewSource(706))
	found := 0
	for range 3000 {
		l, names := []api.SnFeast{}, map[string]bool{}
		for range r.Intn(6) {
			if f := randomFeast(r); !names[f.Name] {
				l, names[f.Name] = append(l, f), true
			}
		}
		day := r.Intn(40001)
		if r.Intn(4) == 0 {
			day = r.Intn(200)
		}
		want := wantFeast(l, day)
		if i, e := Feast(l, day); i != want || e != api.OK {
			t.Fatalf("Feast(%v, %d) = %d, %d, want %d", l, day, i, e, want)
		}
		if want > 0 {
			found++
		}
	}
	if found < 300 {
		t.Errorf("a festival that is not the first one was found %d times", found)
	}
}

// badFeasts are festivals with an error, each after a good one that is named a.
func badFeasts() map[api.Errno][]api.SnFeast {
	all := map[api.Errno][]api.SnFeast{api.ErrTwice: feasts(api.SnFeast{Name: "a", Month: 1, Day: 1, Days: 1}, api.SnFeast{Name: "a"})}
	for _, name := range []string{"", "A", "1", "-a", "a b", "é", strings.Repeat("a", 25)} {
		all[api.ErrForm] = append(all[api.ErrForm], api.SnFeast{Name: name, Month: 1, Day: 1, Days: 1}, api.SnFeast{Name: name, Month: -1})
	}
	add := func(month, day, days int) {
		all[api.ErrRange] = append(all[api.ErrRange], api.SnFeast{Name: "b", Month: month, Day: day, Days: days})
	}
	for month, most := range []int{60, 31, 29, 31, 30, 31, 30, 31, 31, 30, 31, 30, 31} {
		add(month, most+1, 1)
		least := 1
		if month == 0 {
			least = -60
		}
		add(month, least-1, 1)
	}
	for _, n := range extremes {
		add(n, 1, 1)
		add(0, n, 1)
		add(1, n, 1)
		add(1, 1, n)
	}
	add(-1, 1, 1)
	add(13, 1, 1)
	add(1, 1, 0)
	add(0, 0, 61)
	return all
}

// P7.6
func TestFeastsThatAreRefused(t *testing.T) {
	refuses := func(l []api.SnFeast, day int, want api.Errno) {
		t.Helper()
		if i, e := Feast(l, day); i != 0 || e != want {
			t.Errorf("Feast(%v, %d) = %d, %d, want %d", l, day, i, e, want)
		}
	}
	good := api.SnFeast{Name: "a", Month: 1, Day: 1, Days: 1}
	bad := badFeasts()
	for e, list := range bad {
		for _, f := range list {
			refuses(feasts(good, f), 0, e)
			refuses(feasts(good, f), -1, e)
			for _, others := range bad { // the first festival with an error decides
				refuses(feasts(good, f, others[0]), 0, e)
			}
		}
	}
	for _, day := range append([]int{-1, 40001}, extremes...) {
		refuses(feasts(good), day, api.ErrRange)
		refuses(nil, day, api.ErrRange)
	}
	refuses(make([]api.SnFeast, 21), -1, api.ErrLong)
	refuses(make([]api.SnFeast, 20), -1, api.ErrForm)
}

// P7.6: what is allowed.
func TestFeastsThatAreTaken(t *testing.T) {
	var l []api.SnFeast
	for month, most := range []int{60, 31, 29, 31, 30, 31, 30, 31, 31, 30, 31, 30, 31} {
		l = append(l, api.SnFeast{Name: strings.Repeat("z", 12+month), Month: month, Day: most, Days: 1 + 59*(month%2)})
	}
	for _, name := range []string{"a", "a1", "a-", "a--1", "z", "zz"} {
		l = append(l, api.SnFeast{Name: name, Day: -60, Days: 1})
	}
	l = append(l, api.SnFeast{Name: "twentieth", Month: 5, Day: 30, Days: 1})
	if i, e := Feast(l, 150); i != 19 || e != api.OK { // May 30
		t.Errorf("Feast of %d = %d, %d", len(l), i, e)
	}
}
