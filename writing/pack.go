package writing

import (
	"math"

	"redact/things"
)

func appendPack(out []byte, t things.Thing) []byte {
	switch t := t.(type) {
	case things.Truth:
		if t {
			return append(out, 195)
		}
		return append(out, 194)
	case things.Number:
		if t < 0 {
			return appendPackNegative(out, int64(t))
		}
		return appendPackNumber(out, uint64(t))
	case things.Text:
		return appendPackText(out, string(t))
	case things.Bytes:
		return append(appendPackBytesHead(out, uint64(len(t))), t...)
	case things.List:
		out = appendPackContainerHead(out, 144, 220, uint64(len(t)))
		for _, inner := range t {
			out = appendPack(out, inner)
		}
		return out
	case things.Map:
		out = appendPackContainerHead(out, 128, 222, uint64(len(t)))
		for _, entry := range t {
			out = appendPackText(out, entry.Key)
			out = appendPack(out, entry.Thing)
		}
		return out
	}
	return append(out, 192)
}

func appendPackNumber(out []byte, number uint64) []byte {
	switch {
	case number < 128:
		return append(out, byte(number))
	case number <= math.MaxUint8:
		return appendArgument(append(out, 204), number, 1)
	case number <= math.MaxUint16:
		return appendArgument(append(out, 205), number, 2)
	case number <= math.MaxUint32:
		return appendArgument(append(out, 206), number, 4)
	}
	return appendArgument(append(out, 207), number, 8)
}

func appendPackNegative(out []byte, number int64) []byte {
	switch {
	case number >= -32:
		return append(out, byte(number))
	case number >= math.MinInt8:
		return appendArgument(append(out, 208), uint64(number), 1)
	case number >= math.MinInt16:
		return appendArgument(append(out, 209), uint64(number), 2)
	case number >= math.MinInt32:
		return appendArgument(append(out, 210), uint64(number), 4)
	}
	return appendArgument(append(out, 211), uint64(number), 8)
}

func appendPackText(out []byte, text string) []byte {
	return append(appendPackTextHead(out, uint64(len(text))), text...)
}

func appendPackTextHead(out []byte, length uint64) []byte {
	switch {
	case length < 32:
		return append(out, 160|byte(length))
	case length <= math.MaxUint8:
		return appendArgument(append(out, 217), length, 1)
	case length <= math.MaxUint16:
		return appendArgument(append(out, 218), length, 2)
	}
	return appendArgument(append(out, 219), length, 4)
}

func appendPackBytesHead(out []byte, length uint64) []byte {
	switch {
	case length <= math.MaxUint8:
		return appendArgument(append(out, 196), length, 1)
	case length <= math.MaxUint16:
		return appendArgument(append(out, 197), length, 2)
	}
	return appendArgument(append(out, 198), length, 4)
}

// appendPackContainerHead writes a head in one byte from small on, or as the byte large, or the one behind it, with the length behind.
func appendPackContainerHead(out []byte, small byte, large byte, length uint64) []byte {
	switch {
	case length < 16:
		return append(out, small|byte(length))
	case length <= math.MaxUint16:
		return appendArgument(append(out, large), length, 2)
	}
	return appendArgument(append(out, large+1), length, 4)
}
