package sun

import (
	"errors"
	"slices"

	"linkboy/api"
	"linkboy/parts"
	"linkboy/whole"
	"linkboy/words"
)

const (
	// aroundEaster is how many days before, or after, Easter Sunday a festival may begin.
	aroundEaster = 60
	// maxFeast is how many days a festival may last.
	maxFeast = 60
)

// feastsError returns the first error of festivals.
func feastsError(l []api.SnFeast) api.Errno {
	if len(l) > api.MaxFeasts {
		return api.ErrLong
	}
	_, e := parts.FirstError(l, feastError)
	return e
}

// feastError returns the first error of a festival that is behind others.
func feastError(before []api.SnFeast, f *api.SnFeast) api.Errno {
	isNamesake := func(other api.SnFeast) bool { return undated(other) == undated(*f) }
	switch {
	case !words.IsName(f.Name):
		return api.ErrForm
	case slices.ContainsFunc(before, isNamesake):
		return api.ErrTwice
	case !hasDate(f) || !whole.IsFrom(f.Days, 1, maxFeast):
		return api.ErrRange
	}
	return api.OK
}

// undated returns a festival of which only the name is left.
func undated(f api.SnFeast) api.SnFeast { return api.SnFeast{Name: f.Name} }

// hasDate reports whether there is a year in which a festival begins.
func hasDate(f *api.SnFeast) bool {
	if f.Month == 0 {
		return whole.IsFrom(f.Day, -aroundEaster, aroundEaster)
	}
	return whole.IsFrom(f.Month, 1, len(lengths)) && whole.IsFrom(f.Day, 1, lengthOf(epoch, f.Month)) // a leap year
}

// isOn reports whether a day is one of a festival.
func isOn(f *api.SnFeast, day int) bool {
	thisYear, _, _ := dateOf(day)
	for year := thisYear - 1; year <= thisYear; year++ {
		begin, err := beginning(f, year)
		if !errors.Is(err, errNoDate) && whole.IsIndex(day-begin, f.Days) {
			return true
		}
	}
	return false
}

// beginning returns the day on which a festival begins in a year.
func beginning(f *api.SnFeast, year int) (int, error) {
	if f.Month == 0 {
		return easter(year) + f.Day, nil
	}
	return dayOf(year, f.Month, f.Day)
}
