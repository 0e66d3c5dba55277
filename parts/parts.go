// Package parts goes through the lists that an argument consists of.
package parts

import (
	"linkboy/api"
	"linkboy/words"
)

// FirstError returns the index of the first thing of a list that has an error, and this error. Whether there is one may depend on the things before.
func FirstError[T any](things []T, errorOf func(before []T, thing *T) api.Errno) (at int, e api.Errno) {
	for at := range things {
		if e := errorOf(things[:at], &things[at]); e != api.OK {
			return at, e
		}
	}
	return 0, api.OK
}

// FirstNamedError does the same for things with names: a name that is none, or that a thing before has, is an error that comes before those of errorOf.
func FirstNamedError[T any](things []T, nameOf func(thing *T) string, errorOf func(before []T, thing *T) api.Errno) (at int, e api.Errno) {
	return FirstError(things, func(before []T, thing *T) api.Errno {
		name := nameOf(thing)
		if !words.IsName(name) {
			return api.ErrForm
		}
		for i := range before {
			if nameOf(&before[i]) == name {
				return api.ErrTwice
			}
		}
		return errorOf(before, thing)
	})
}
