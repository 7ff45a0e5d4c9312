package reading

import "redact/api"

// source hands out the bytes of an input, one by one, and minds the limits.
type source struct {
	input  []byte
	limits Limits
	at     int // how many bytes are taken
	within int // how many containers the next thing is within
}

// more tells whether a byte follows. One beyond the limit is an error whatever it is, and even if it is only looked at.
func (s *source) more() bool {
	if s.at == len(s.input) {
		return false
	}
	if s.at == s.limits.Bytes {
		panic(Failure{api.ErrSize, s.at})
	}
	return true
}

// take hands out the next byte, which must be there.
func (s *source) take() byte {
	if !s.more() {
		panic(Failure{api.ErrForm, s.at})
	}
	s.at++
	return s.input[s.at-1]
}

// follows tells whether the next byte is this one.
func (s *source) follows(b byte) bool {
	return s.more() && s.input[s.at] == b
}

func (s *source) digitFollows() bool {
	return s.more() && isDigit(s.input[s.at])
}

// refuse gives up, with an error at the byte that was taken last.
func (s *source) refuse(errno api.Errno) {
	panic(Failure{errno, s.at - 1})
}

// enter goes into a container whose first byte was taken last.
func (s *source) enter() {
	if s.within == s.limits.Depth {
		s.refuse(api.ErrDepth)
	}
	s.within++
}

func (s *source) leave() {
	s.within--
}

// skipSpace does nothing: but for JSON, no format has white space.
func (s *source) skipSpace() {}

func (s *source) readEnd() {
	if s.more() {
		s.take()
		s.refuse(api.ErrForm)
	}
}

func (s *source) taken() int {
	return s.at
}
