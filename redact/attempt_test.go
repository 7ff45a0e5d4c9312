package redact

import (
	"errors"
	"testing"

	"redact/api"
	"redact/reading"
)

func TestAttempt(t *testing.T) {
	if answer, errno, place := attempt(func() int { return 7 }); answer != 7 || errno != api.OK || place != 0 {
		t.Errorf("a reading without an error: %d, %d, %d", answer, errno, place)
	}
	answer, errno, place := attempt(func() int { panic(reading.Failure{Errno: api.ErrTwice, Place: 3}) })
	if answer != 0 || errno != api.ErrTwice || place != 3 {
		t.Errorf("a reading that gave up: %d, %d, %d", answer, errno, place)
	}
}

// TestAttemptCatchesNothingElse: what is no Failure is a fault of the program, and must not look like an error of an input.
func TestAttemptCatchesNothingElse(t *testing.T) {
	var list []int
	for what, read := range map[string]func() int{
		"a text":                 func() int { panic("other") },
		"an error":               func() int { panic(errors.New("other")) },
		"an error number":        func() int { panic(api.ErrForm) },
		"a pointer to a Failure": func() int { panic(&reading.Failure{}) },
		"an index out of range":  func() int { return list[0] },
		"nil":                    func() int { panic(nil) },
	} {
		func() {
			defer func() {
				if recover() == nil {
					t.Errorf("a panic with %s was caught", what)
				}
			}()
			attempt(read)
		}()
	}
}
