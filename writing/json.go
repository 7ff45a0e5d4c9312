package writing

import (
	"strconv"
	"unicode/utf8"

	"redact/things"
)

const hexDigits = "0123456789abcdef"

func appendJSON(out []byte, t things.Thing) []byte {
	switch t := t.(type) {
	case things.Truth:
		return strconv.AppendBool(out, bool(t))
	case things.Number:
		return strconv.AppendInt(out, int64(t), 10)
	case things.Text:
		return appendJSONText(out, string(t))
	case things.List:
		return appendJSONList(out, t)
	case things.Map:
		return appendJSONMap(out, t)
	}
	return append(out, "null"...)
}

func appendJSONText(out []byte, text string) []byte {
	out = append(out, '"')
	for _, char := range text {
		switch {
		case char == '"' || char == '\\':
			out = append(out, '\\', byte(char))
		case char < ' ':
			out = append(out, `\u00`...)
			out = append(out, hexDigits[char>>4], hexDigits[char&15])
		default:
			out = utf8.AppendRune(out, char)
		}
	}
	return append(out, '"')
}

func appendJSONList(out []byte, list things.List) []byte {
	out = append(out, '[')
	for i, t := range list {
		if i > 0 {
			out = append(out, ',')
		}
		out = appendJSON(out, t)
	}
	return append(out, ']')
}

func appendJSONMap(out []byte, entries things.Map) []byte {
	out = append(out, '{')
	for i, entry := range entries {
		if i > 0 {
			out = append(out, ',')
		}
		out = appendJSONText(out, entry.Key)
		out = append(out, ':')
		out = appendJSON(out, entry.Thing)
	}
	return append(out, '}')
}
