package writing

import (
	"math"

	"redact/things"
)

// The sorts of CBOR's heads.
const (
	cborNumber = iota
	cborNegative
	cborBytes
	cborText
	cborList
	cborMap
	_
	cborOther
)

// The arguments of cborOther.
const (
	cborFalse = 20 + iota
	cborTrue
	cborNothing
)

func appendCBOR(out []byte, t things.Thing) []byte {
	switch t := t.(type) {
	case things.Truth:
		if t {
			return appendCBORHead(out, cborOther, cborTrue)
		}
		return appendCBORHead(out, cborOther, cborFalse)
	case things.Number:
		if t < 0 {
			return appendCBORHead(out, cborNegative, uint64(-1-t))
		}
		return appendCBORHead(out, cborNumber, uint64(t))
	case things.Text:
		return appendCBORText(out, string(t))
	case things.Bytes:
		return append(appendCBORHead(out, cborBytes, uint64(len(t))), t...)
	case things.List:
		out = appendCBORHead(out, cborList, uint64(len(t)))
		for _, inner := range t {
			out = appendCBOR(out, inner)
		}
		return out
	case things.Map:
		out = appendCBORHead(out, cborMap, uint64(len(t)))
		for _, entry := range t {
			out = appendCBORText(out, entry.Key)
			out = appendCBOR(out, entry.Thing)
		}
		return out
	}
	return appendCBORHead(out, cborOther, cborNothing)
}

func appendCBORText(out []byte, text string) []byte {
	return append(appendCBORHead(out, cborText, uint64(len(text))), text...)
}

func appendCBORHead(out []byte, sort byte, argument uint64) []byte {
	first := sort << 5
	switch {
	case argument < 24:
		return append(out, first|byte(argument))
	case argument <= math.MaxUint8:
		return appendArgument(append(out, first|24), argument, 1)
	case argument <= math.MaxUint16:
		return appendArgument(append(out, first|25), argument, 2)
	case argument <= math.MaxUint32:
		return appendArgument(append(out, first|26), argument, 4)
	}
	return appendArgument(append(out, first|27), argument, 8)
}
