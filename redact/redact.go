// Package redact: a gate that passes on what its receiver may see: see DOC.md.
package redact

import (
	"bytes"

	"redact/api"
	"redact/automaton"
	"redact/config"
	"redact/padding"
	"redact/reading"
	"redact/things"
	"redact/writing"
)

// Check tells whether a configuration is right, or what is wrong; of a policy the line (P3).
func Check(c api.Config) (api.Errno, int) {
	_, errno, line := config.Read(c)
	return errno, line
}

// Leq tells whether a label is another, or below it (P4).
func Leq(c api.Config, a int, b int) (bool, api.Errno) {
	setup, errno, _ := config.Read(c)
	if errno != api.OK {
		return false, errno
	}
	if !setup.Order.Has(a) || !setup.Order.Has(b) {
		return false, api.ErrArg
	}
	return setup.Order.AtMost(a, b), api.OK
}

// Label tells the label and the action of a path (P5).
func Label(c api.Config, path []api.Step) (int, int, api.Errno) {
	setup, errno, _ := config.Read(c)
	if errno != api.OK {
		return 0, 0, errno
	}
	if !isPath(path) {
		return 0, 0, api.ErrArg
	}
	rules := automaton.Compile(setup.Rules, c.Default)
	state := automaton.Start
	for _, step := range path {
		state = rules.Next(state, step)
	}
	label, action := rules.Verdict(state)
	return label, action, api.OK
}

func isPath(path []api.Step) bool {
	if len(path) > api.MaxBytes {
		return false
	}
	for _, step := range path {
		if step.Index && step.Key != "" {
			return false
		}
	}
	return true
}

// Transcode reads a document in one format and writes it in another (P6).
func Transcode(in int, out int, depth int, limit int, b []byte) ([]byte, api.Errno, int) {
	if !config.LimitsOK(in, out, depth, limit) {
		return nil, api.ErrArg, 0
	}
	document, errno, place := attempt(func() things.Thing {
		return reading.Document(in, reading.Limits{Depth: depth, Bytes: limit}, b)
	})
	if errno != api.OK {
		return nil, errno, place
	}
	written, errno := write(out, document)
	return written, errno, 0
}

// write writes a document, if the format has all the things that are in it.
func write(format int, document things.Thing) ([]byte, api.Errno) {
	if format == api.JSON && things.HasBytes(document) {
		return nil, api.ErrKind
	}
	return writing.Document(format, document), api.OK
}

// Unpad takes the padding away (P7).
func Unpad(format int, b []byte) ([]byte, api.Errno) {
	if !config.IsFormat(format) || len(b) > api.MaxBucket {
		return nil, api.ErrArg
	}
	length, errno, _ := attempt(func() int {
		return reading.First(format, reading.Limits{Depth: api.MaxDepth, Bytes: len(b)}, b)
	})
	if errno != api.OK || !padding.IsFill(format, b[length:]) {
		return nil, api.ErrForm
	}
	return bytes.Clone(b[:length]), api.OK
}
