// Package padding: what a document is filled up with.
package padding

import "redact/api"

// IsFill tells whether bytes are just those that documents of a format are filled up with.
func IsFill(format int, b []byte) bool {
	fill := byteOf(format)
	for _, one := range b {
		if one != fill {
			return false
		}
	}
	return true
}

func byteOf(format int) byte {
	if format == api.JSON {
		return ' '
	}
	return 0
}
