package redact

import (
	"slices"

	"redact/api"
	"redact/automaton"
	"redact/config"
	"redact/padding"
	"redact/reading"
	"redact/rewriting"
	"redact/things"
)

// Gate reads a document, piece by piece.
type Gate struct {
	in, out  int
	limits   reading.Limits
	receiver rewriting.Receiver
	buckets  []int
	fed      []byte
	closed   bool
}

// Open opens a gate (P8).
func Open(c api.Config) (*Gate, api.Errno) {
	setup, errno, _ := config.Read(c)
	if errno != api.OK {
		return nil, errno
	}
	return &Gate{
		in:     c.In,
		out:    c.Out,
		limits: reading.Limits{Depth: c.Depth, Bytes: c.Bytes},
		receiver: rewriting.Receiver{
			Order:     setup.Order,
			Clearance: c.Clearance,
			Key:       c.Key,
			Rules:     automaton.Compile(setup.Rules, c.Default),
		},
		buckets: slices.Clone(c.Buckets),
	}, api.OK
}

// Feed hands in the next piece (P9).
func (g *Gate) Feed(b []byte) api.Errno {
	if g.closed {
		return api.ErrClosed
	}
	g.keep(b)
	// All is read anew, so that nothing hangs on where it was cut, nor on an error that was told before.
	_, errno, place := g.read()
	if errno != api.OK && place == len(g.fed) {
		// It only ends too early, which the next piece may mend.
		return api.OK
	}
	return errno
}

// Close gives the document that goes out (P10).
func (g *Gate) Close() ([]byte, api.Report, api.Errno, int) {
	if g.closed {
		return nil, api.Report{}, api.ErrClosed, 0
	}
	// A closed gate needs nothing of what it was.
	last := *g
	*g = Gate{closed: true}
	document, errno, place := last.read()
	if errno != api.OK {
		return nil, api.Report{}, errno, place
	}
	answer, report, errno := last.passOn(document)
	return answer, report, errno, 0
}

// keep leaves what is more than one byte beyond the limit: that byte is an error, whatever follows.
func (g *Gate) keep(b []byte) {
	room := g.limits.Bytes + 1 - len(g.fed)
	g.fed = append(g.fed, b[:min(len(b), room)]...)
}

func (g *Gate) read() (things.Thing, api.Errno, int) {
	return attempt(func() things.Thing {
		return reading.Document(g.in, g.limits, g.fed)
	})
}

// passOn gives what the receiver gets of a document.
func (g *Gate) passOn(document things.Thing) ([]byte, api.Report, api.Errno) {
	rewritten, report := rewriting.Document(g.receiver, document)
	written, errno := write(g.out, rewritten)
	if errno != api.OK {
		return nil, api.Report{}, errno
	}
	filled, ok := padding.Fill(g.out, written, g.buckets)
	if !ok {
		return nil, api.Report{}, api.ErrLarge
	}
	return filled, report, api.OK
}
