// Package ask: what may not be is left by a panic, and tried so that it is told as an error.
package ask

import (
	"slices"

	"mailcoach/api"
)

// Never leaves with e, if one of the things is so, none of which may be.
func Never(e api.Errno, things ...bool) {
	if slices.Contains(things, true) {
		panic(e)
	}
}

// OK leaves with the first of the errors that is one.
func OK(l ...api.Errno) {
	for _, e := range l {
		Never(e, e != api.OK)
	}
}

// Tried: the error with which do was left; OK, if it went to its end.
func Tried(do func()) (e api.Errno) {
	defer func() {
		switch left := recover().(type) {
		case nil:
		case api.Errno:
			e = left
		default:
			// A fault of the program itself: told as OK, or as some error, it would hide.
			panic(left)
		}
	}()
	do()
	return api.OK
}
