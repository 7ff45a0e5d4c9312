// Package writing: documents written in each of the formats.
package writing

import (
	"redact/api"
	"redact/things"
)

// Document writes a document in a format. In JSON it must be one without bytes.
func Document(format int, document things.Thing) []byte {
	switch format {
	case api.JSON:
		return appendJSON(nil, document)
	case api.CBOR:
		return appendCBOR(nil, document)
	default:
		return appendPack(nil, document)
	}
}

// appendArgument writes an argument in so many bytes, the highest first.
func appendArgument(out []byte, argument uint64, width int) []byte {
	for behind := width - 1; behind >= 0; behind-- {
		out = append(out, byte(argument>>(8*behind)))
	}
	return out
}
