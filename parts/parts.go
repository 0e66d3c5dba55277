// Package parts goes through the lists that an argument consists of.
package parts

import "linkboy/api"

// FirstError returns the index of the first thing of a list that has an error, and this error. Whether there is one may depend on the things before.
func FirstError[T any](things []T, errorOf func(before []T, thing *T) api.Errno) (at int, e api.Errno) {
	for at := range things {
		if e := errorOf(things[:at], &things[at]); e != api.OK {
			return at, e
		}
	}
	return 0, api.OK
}
