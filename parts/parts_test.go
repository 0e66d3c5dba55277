package parts

import (
	"testing"

	"linkboy/api"
)

// twice refuses a number that stands before, and one below 0.
func twice(before []int, n *int) api.Errno {
	if *n < 0 {
		return api.ErrRange
	}
	for _, other := range before {
		if other == *n {
			return api.ErrTwice
		}
	}
	return api.OK
}

func TestFirstError(t *testing.T) {
	for _, c := range []struct {
		things []int
		at     int
		e      api.Errno
	}{
		{nil, 0, api.OK}, {[]int{1, 2, 3}, 0, api.OK}, {[]int{-1, 2, 2}, 0, api.ErrRange}, {[]int{1, 2, 2, -1}, 2, api.ErrTwice}, {[]int{1, 2, -1, 2}, 2, api.ErrRange},
	} {
		if at, e := FirstError(c.things, twice); at != c.at || e != c.e {
			t.Errorf("FirstError(%v) = %d, %d, want %d, %d", c.things, at, e, c.at, c.e)
		}
	}
}

type named struct {
	name string
	n    int
}

func TestFirstNamedError(t *testing.T) {
	nameOf := func(x *named) string { return x.name }
	low := func(before []named, x *named) api.Errno {
		if x.n < len(before) {
			return api.ErrRange
		}
		return api.OK
	}
	for _, c := range []struct {
		things []named
		at     int
		e      api.Errno
	}{
		{nil, 0, api.OK}, {[]named{{"a", 0}, {"b", 1}, {"c-1", 2}}, 0, api.OK}, {[]named{{"a", 0}, {"", -1}, {"a", -1}}, 1, api.ErrForm}, {[]named{{"A", 0}}, 0, api.ErrForm},
		{[]named{{"a", 0}, {"b", 1}, {"a", 1}}, 2, api.ErrTwice}, {[]named{{"a", 0}, {"b", 1}, {"b", 1}}, 2, api.ErrTwice}, {[]named{{"a", 0}, {"b", 0}, {"a", 2}}, 1, api.ErrRange},
	} {
		if at, e := FirstNamedError(c.things, nameOf, low); at != c.at || e != c.e {
			t.Errorf("FirstNamedError(%v) = %d, %d, want %d, %d", c.things, at, e, c.at, c.e)
		}
	}
}
