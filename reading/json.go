package reading

import (
	"math"

	"redact/api"
	"redact/things"
)

type jsonReader struct {
	*source
}

func (r jsonReader) skipSpace() {
	for r.follows(' ') || r.follows('\t') || r.follows('\n') || r.follows('\r') {
		r.take()
	}
}

func (r jsonReader) readThing() things.Thing {
	switch first := r.take(); {
	case first == 'n':
		r.readRest("ull")
		return things.Nothing{}
	case first == 't':
		r.readRest("rue")
		return things.Truth(true)
	case first == 'f':
		r.readRest("alse")
		return things.Truth(false)
	case first == '"':
		return things.Text(r.readText())
	case first == '[':
		return r.readList()
	case first == '{':
		return r.readMap()
	case first == '-' || isDigit(first):
		return r.readNumber(first)
	}
	r.refuse(api.ErrForm)
	return nil
}

// readRest reads bytes that must be just these.
func (r jsonReader) readRest(rest string) {
	for i := range len(rest) {
		if r.take() != rest[i] {
			r.refuse(api.ErrForm)
		}
	}
}

// readNumber reads a number whose first byte is taken.
func (r jsonReader) readNumber(first byte) things.Number {
	if first != '-' {
		return things.Number(r.readDigits(first, math.MaxInt64))
	}
	digit := r.take()
	if !isDigit(digit) {
		r.refuse(api.ErrForm)
	}
	return things.Number(-r.readDigits(digit, -math.MinInt64))
}

// readDigits reads the digits of a number, of which the first is taken. The number may be up to most.
func (r jsonReader) readDigits(first byte, most uint64) uint64 {
	number := uint64(first - '0')
	for r.digitFollows() {
		if first == '0' {
			r.take()
			r.refuse(api.ErrForm)
		}
		digit := uint64(r.take() - '0')
		if number > (most-digit)/10 {
			r.refuse(api.ErrNumber)
		}
		number = number*10 + digit
	}
	if r.follows('.') || r.follows('e') || r.follows('E') {
		r.take()
		r.refuse(api.ErrNumber)
	}
	return number
}

// readText reads a text whose first sign is taken.
func (r jsonReader) readText() string {
	var text gathered
signs:
	for {
		switch sign := r.take(); {
		case sign == '"' && text.isWhole():
			break signs
		case sign == '\\' && text.isWhole():
			text.addCharacter(r.readEscape())
		case sign < ' ' || !text.add(sign):
			r.refuse(api.ErrForm)
		}
	}
	return string(text.bytes)
}

// readEscape reads an escape behind its backslash.
func (r jsonReader) readEscape() rune {
	switch sign := r.take(); sign {
	case '"', '\\', '/':
		return rune(sign)
	case 'b':
		return '\b'
	case 'f':
		return '\f'
	case 'n':
		return '\n'
	case 'r':
		return '\r'
	case 't':
		return '\t'
	case 'u':
		return r.readCode()
	}
	r.refuse(api.ErrForm)
	return 0
}

// readCode reads the four digits of a character, or those of a surrogate with all of the one that must follow.
func (r jsonReader) readCode() rune {
	code := r.readHex()
	switch {
	case isLowSurrogate(code):
		r.refuse(api.ErrForm)
	case isHighSurrogate(code):
		r.readRest(`\u`)
		low := r.readHex()
		if !isLowSurrogate(low) {
			r.refuse(api.ErrForm)
		}
		return 0x10000 + (code-0xd800)<<10 + (low - 0xdc00)
	}
	return code
}

func (r jsonReader) readHex() rune {
	code := rune(0)
	for range 4 {
		digit, ok := hexDigit(r.take())
		if !ok {
			r.refuse(api.ErrForm)
		}
		code = code<<4 + digit
	}
	return code
}

func (r jsonReader) readList() things.List {
	var list things.List
	r.readItems(']', func() {
		list = append(list, r.readThing())
	})
	return list
}

func (r jsonReader) readMap() things.Map {
	var entries things.Map
	known := keys{}
	r.readItems('}', func() {
		key := r.readKey(known)
		r.skipSpace()
		r.readRest(":")
		r.skipSpace()
		entries = append(entries, things.Entry{Key: key, Thing: r.readThing()})
	})
	return entries
}

func (r jsonReader) readKey(known keys) string {
	r.readRest(`"`)
	key := r.readText()
	if !known.add(key) {
		r.refuse(api.ErrTwice)
	}
	return key
}

// readItems reads a container behind its first sign, up to its last.
func (r jsonReader) readItems(last byte, readItem func()) {
	r.enter()
	r.skipSpace()
	if r.follows(last) {
		r.take()
		r.leave()
		return
	}
items:
	for {
		r.skipSpace()
		readItem()
		r.skipSpace()
		switch r.take() {
		case last:
			break items
		case ',':
		default:
			r.refuse(api.ErrForm)
		}
	}
	r.leave()
}

func isDigit(b byte) bool {
	return b >= '0' && b <= '9'
}

func hexDigit(b byte) (rune, bool) {
	switch {
	case isDigit(b):
		return rune(b - '0'), true
	case b >= 'a' && b <= 'f':
		return rune(b-'a') + 10, true
	case b >= 'A' && b <= 'F':
		return rune(b-'A') + 10, true
	}
	return 0, false
}

func isHighSurrogate(code rune) bool {
	return code >= 0xd800 && code <= 0xdbff
}

func isLowSurrogate(code rune) bool {
	return code >= 0xdc00 && code <= 0xdfff
}
