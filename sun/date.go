package sun

import (
	"errors"

	"linkboy/whole"
)

const (
	// epoch is the year of day 0.
	epoch = 2000
	// firstYear is a year before: a festival of day 0 can have begun in it.
	firstYear = epoch - 1
	// lastYear is the year of the last day.
	lastYear = 2109
	// february is the month that has a day more in a leap year.
	february = 2
	// daysToEpoch is what newYear would return for the epoch, if it did not subtract it.
	daysToEpoch = 365*epoch + (epoch-1)/4 - (epoch-1)/100 + (epoch-1)/400
)

// lengths are the numbers of days of the months of a year that is no leap year.
var lengths = [12]int{31, 28, 31, 30, 31, 30, 31, 31, 30, 31, 30, 31}

// errNoDate says that there is no such date.
var errNoDate = errors.New("there is no such date in the years of festivals")

// dayOf returns the number of a date, from firstYear to lastYear; it may be that of no day.
func dayOf(year, month, date int) (int, error) {
	if !whole.IsFrom(year, firstYear, lastYear) || !whole.IsFrom(month, 1, len(lengths)) || !whole.IsFrom(date, 1, lengthOf(year, month)) {
		return 0, errNoDate
	}
	day := newYear(year) + date - 1
	for m := 1; m < month; m++ {
		day += lengthOf(year, m)
	}
	return day, nil
}

// dateOf returns the date of a day.
func dateOf(day int) (year, month, date int) {
	year = epoch
	for newYear(year+1) <= day {
		year++
	}
	day -= newYear(year)
	month = 1
	for day >= lengthOf(year, month) {
		day -= lengthOf(year, month)
		month++
	}
	return year, month, day + 1
}

// newYear returns the number of the first date of a year.
func newYear(year int) int {
	last := year - 1
	return 365*year + last/4 - last/100 + last/400 - daysToEpoch
}

// lengthOf returns how many days a month of a year has.
func lengthOf(year, month int) int {
	if month == february {
		return newYear(year+1) - newYear(year) - 365 + lengths[month-1]
	}
	return lengths[month-1]
}

// easter returns the number of Easter Sunday; the letters are those of the document.
func easter(year int) int {
	a, b, c := year%19, year/100, year%100
	f := (b + 8) / 25
	g := (b - f + 1) / 3
	h := (19*a + b - b/4 - g + 15) % 30
	l := (32 + 2*(b%4) + 2*(c/4) - h - c%4) % 7
	m := (a + 11*h + 22*l) / 451
	n := h + l - 7*m + 114
	day, _ := dayOf(year, n/31, n%31+1) // it is in March or April
	return day
}
