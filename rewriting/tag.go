package rewriting

import (
	"strconv"
	"strings"

	"redact/api"
	"redact/things"
	"redact/writing"
)

// sum is the number that a tag tells. Its arithmetic is meant to wrap round.
type sum uint64

const (
	firstSum  sum = 14695981039346656037
	sumFactor sum = 1099511628211
	tagDigits     = 16
)

// tagOf hangs on the thing alone and not on how it came in, which is why it goes over one way of writing it.
func tagOf(key int, label int, t things.Thing) things.Text {
	s := firstSum
	for i := range 8 {
		s = s.with(byte(key >> (8 * i)))
	}
	s = s.with(byte(label))
	for _, b := range writing.Document(api.CBOR, t) {
		s = s.with(b)
	}
	return things.Text(s.digits())
}

func (s sum) with(b byte) sum {
	return (s ^ sum(b)) * sumFactor
}

func (s sum) digits() string {
	digits := strconv.FormatUint(uint64(s), 16)
	return strings.Repeat("0", tagDigits-len(digits)) + digits
}
