package redact

import (
	"redact/api"
	"redact/reading"
)

// attempt reads, and tells the error and its place if the reading gave up. A panic with anything else is no error of an input, and goes on.
func attempt[T any](read func() T) (answer T, errno api.Errno, place int) {
	defer func() {
		switch thrown := recover().(type) {
		case nil:
		case reading.Failure:
			errno, place = thrown.Errno, thrown.Place
		default:
			panic(thrown)
		}
	}()
	return read(), api.OK, 0
}
