package reading

import (
	"math"

	"redact/api"
	"redact/things"
)

// sort tells what kind of thing a head begins.
type sort int

const (
	noSort sort = iota // no thing begins so
	nothingSort
	falseSort
	trueSort
	unsignedSort // the number that the argument is
	signedSort   // the number that the argument is in two's complement
	negativeSort // -1 less the argument
	bytesSort    // so many bytes
	textSort     // a text of so many bytes
	listSort     // so many things
	mapSort      // so many entries
)

// head is what the first byte of a thing tells: its sort and its argument, or how many bytes of argument follow.
type head struct {
	sort     sort
	width    int
	argument uint64 // if no bytes of it follow
}

// binaryReader reads CBOR and MessagePack, which differ in their heads alone.
type binaryReader struct {
	*source
	headOf func(first byte) head
}

func (r binaryReader) readThing() things.Thing {
	h := r.headOf(r.take())
	switch h.sort {
	case noSort:
		r.refuse(api.ErrForm)
	case listSort, mapSort:
		r.enter()
		defer r.leave()
	}
	argument := r.readArgument(h)
	switch h.sort {
	case falseSort, trueSort:
		return things.Truth(h.sort == trueSort)
	case unsignedSort, signedSort, negativeSort:
		return r.numberOf(h, argument)
	case bytesSort:
		return r.readBytes(argument)
	case textSort:
		return things.Text(r.readText(argument))
	case listSort:
		return r.readList(argument)
	case mapSort:
		return r.readMap(argument)
	}
	return things.Nothing{}
}

func (r binaryReader) readArgument(h head) uint64 {
	argument := h.argument
	for range h.width {
		argument = argument<<8 | uint64(r.take())
	}
	return argument
}

// numberOf tells the number of a head whose argument was taken last.
func (r binaryReader) numberOf(h head, argument uint64) things.Number {
	if h.sort == signedSort {
		return things.Number(extendSign(argument, h.width))
	}
	if argument > math.MaxInt64 {
		r.refuse(api.ErrNumber)
	}
	if h.sort == negativeSort {
		return things.Number(-1 - int64(argument))
	}
	return things.Number(argument)
}

func extendSign(argument uint64, width int) int64 {
	switch width {
	case 1:
		return int64(int8(argument))
	case 2:
		return int64(int16(argument))
	case 4:
		return int64(int32(argument))
	}
	return int64(argument)
}

// readBytes takes no room ahead: the number may tell more bytes than there are.
func (r binaryReader) readBytes(length uint64) things.Bytes {
	var row things.Bytes
	for range length {
		row = append(row, r.take())
	}
	return row
}

func (r binaryReader) readText(length uint64) string {
	var text gathered
	for range length {
		if !text.add(r.take()) {
			r.refuse(api.ErrForm)
		}
	}
	if !text.isWhole() {
		r.refuse(api.ErrForm)
	}
	return string(text.bytes)
}

func (r binaryReader) readList(length uint64) things.List {
	var list things.List
	for range length {
		list = append(list, r.readThing())
	}
	return list
}

func (r binaryReader) readMap(length uint64) things.Map {
	var entries things.Map
	known := keys{}
	for range length {
		key := r.readKey(known)
		entries = append(entries, things.Entry{Key: key, Thing: r.readThing()})
	}
	return entries
}

func (r binaryReader) readKey(known keys) string {
	h := r.headOf(r.take())
	if h.sort != textSort {
		r.refuse(api.ErrForm)
	}
	key := r.readText(r.readArgument(h))
	if !known.add(key) {
		r.refuse(api.ErrTwice)
	}
	return key
}
