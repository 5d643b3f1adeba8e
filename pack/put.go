// Package pack: numbers and texts as bytes: they are put one behind the other, and read again.
package pack

import (
	"math"

	"mailcoach/api"
	"mailcoach/ask"
)

// Put: the bytes of the things, one behind the other: a number is a byte; a bool is the number 1, if it is so, else 0; a
// text has how many bytes it has ahead. ErrRange, if a number is none of a byte; ErrKind, if a thing is none of these.
func Put(things ...any) (string, api.Errno) {
	var b []byte
	e := ask.Tried(func() {
		for _, x := range things {
			switch v := x.(type) {
			case int:
				b = append(b, octet(v))
			case bool:
				b = append(b, octet(flag(v)))
			case string:
				b = append(b, octet(len(v)))
				b = append(b, v...)
			default:
				ask.OK(api.ErrKind)
			}
		}
	})
	if e != api.OK {
		return "", e
	}
	return string(b), api.OK
}

// octet: the byte that a number is.
func octet(n int) byte {
	ask.Never(api.ErrRange, n < 0, n > math.MaxUint8)
	return byte(n)
}

// flag: the number that a bool is.
func flag(is bool) int {
	if is {
		return 1
	}
	return 0
}
