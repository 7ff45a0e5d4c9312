// Package reading: documents read from their bytes, in each of the formats.
//
// A reading that finds an error gives up from deep inside by a panic with a Failure. It is for the calls of package redact to recover that.
package reading

import (
	"redact/api"
	"redact/things"
)

// Failure is what a reading panics with: the error of the input and its place.
type Failure struct {
	Errno api.Errno
	Place int
}

// Limits of a reading: how many containers may stand one within the other, and how many bytes there may be.
type Limits struct {
	Depth, Bytes int
}

// reader reads the things of one format.
type reader interface {
	readThing() things.Thing
	skipSpace()
	readEnd()
	taken() int
}

// Document reads the document that an input is. It panics with a Failure, if the input is none.
func Document(format int, limits Limits, input []byte) things.Thing {
	r := newReader(format, limits, input)
	r.skipSpace()
	document := r.readThing()
	r.skipSpace()
	r.readEnd()
	return document
}

// First tells how many bytes the thing has with which an input begins. It panics with a Failure, if the input begins with none.
func First(format int, limits Limits, input []byte) int {
	r := newReader(format, limits, input)
	r.readThing()
	return r.taken()
}

func newReader(format int, limits Limits, input []byte) reader {
	s := &source{input: input, limits: limits}
	switch format {
	case api.JSON:
		return jsonReader{s}
	case api.CBOR:
		return binaryReader{s, cborHead}
	default:
		return binaryReader{s, packHead}
	}
}
