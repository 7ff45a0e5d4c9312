// Package padding: what a document is filled up with, and how far.
package padding

import (
	"bytes"

	"redact/api"
)

// Fill fills a document up to the least bucket that is large enough, the buckets being in order; false, if none is. Without buckets nothing is filled up.
func Fill(format int, document []byte, buckets []int) ([]byte, bool) {
	if len(buckets) == 0 {
		return document, true
	}
	for _, bucket := range buckets {
		if bucket >= len(document) {
			fill := bytes.Repeat([]byte{byteOf(format)}, bucket-len(document))
			return append(document, fill...), true
		}
	}
	return nil, false
}

// IsFill tells whether bytes are just those that documents of a format are filled up with.
func IsFill(format int, b []byte) bool {
	fill := byteOf(format)
	for _, one := range b {
		if one != fill {
			return false
		}
	}
	return true
}

func byteOf(format int) byte {
	if format == api.JSON {
		return ' '
	}
	return 0
}
