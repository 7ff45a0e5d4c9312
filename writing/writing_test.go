package writing

import (
	"bytes"
	"math"
	"testing"

	"redact/api"
	"redact/things"
)

func TestDocument(t *testing.T) {
	document := things.List{
		things.Nothing{}, things.Truth(true), things.Truth(false), things.Number(-7), things.Text("é\n\"\\\x7f"), things.List{},
		things.Map{{Key: "b\x1f", Thing: things.Number(math.MinInt64)}, {Key: "", Thing: things.Map{}}},
	}
	for format, want := range map[int]string{
		api.JSON: `[null,true,false,-7,"é\u000a\"\\` + "\x7f" + `",[],{"b\u001f":-9223372036854775808,"":{}}]`,
		api.CBOR: "\x87\xf6\xf5\xf4\x26\x66é\n\"\\\x7f\x80\xa2\x62b\x1f\x3b\x7f\xff\xff\xff\xff\xff\xff\xff\x60\xa0",
		api.Pack: "\x97\xc0\xc3\xc2\xf9\xa6é\n\"\\\x7f\x90\x82\xa2b\x1f\xd3\x80\x00\x00\x00\x00\x00\x00\x00\xa0\x80",
	} {
		if got := Document(format, document); string(got) != want {
			t.Errorf("in the format %d: %q, want %q", format, got, want)
		}
	}
	for format, want := range map[int]string{api.CBOR: "\x42\xff\x00", api.Pack: "\xc4\x02\xff\x00"} {
		if got := Document(format, things.Bytes{0xff, 0}); string(got) != want {
			t.Errorf("bytes in the format %d: %q, want %q", format, got, want)
		}
	}
}

// TestEscapes: just these characters, and none else.
func TestEscapes(t *testing.T) {
	const digits = "0123456789abcdef"
	for char := rune(0); char < 0x300; char++ {
		want := string(char)
		switch {
		case char == '"' || char == '\\':
			want = `\` + want
		case char < 32:
			want = `\u00` + digits[char/16:char/16+1] + digits[char%16:char%16+1]
		}
		if got := Document(api.JSON, things.Text(string(char))); string(got) != `"`+want+`"` {
			t.Errorf("%U is written %s", char, got)
		}
	}
}

// TestHeads: each length at the bounds of its ways, by the head alone.
func TestHeads(t *testing.T) {
	for _, k := range []struct {
		length                        int
		cbor, text, bytes, list, maps string
	}{
		{0, "\x60", "\xa0", "\xc4\x00", "\x90", "\x80"},
		{15, "\x6f", "\xaf", "\xc4\x0f", "\x9f", "\x8f"},
		{16, "\x70", "\xb0", "\xc4\x10", "\xdc\x00\x10", "\xde\x00\x10"},
		{23, "\x77", "\xb7", "\xc4\x17", "\xdc\x00\x17", "\xde\x00\x17"},
		{24, "\x78\x18", "\xb8", "\xc4\x18", "\xdc\x00\x18", "\xde\x00\x18"},
		{31, "\x78\x1f", "\xbf", "\xc4\x1f", "\xdc\x00\x1f", "\xde\x00\x1f"},
		{32, "\x78\x20", "\xd9\x20", "\xc4\x20", "\xdc\x00\x20", "\xde\x00\x20"},
		{255, "\x78\xff", "\xd9\xff", "\xc4\xff", "\xdc\x00\xff", "\xde\x00\xff"},
		{256, "\x79\x01\x00", "\xda\x01\x00", "\xc5\x01\x00", "\xdc\x01\x00", "\xde\x01\x00"},
		{65535, "\x79\xff\xff", "\xda\xff\xff", "\xc5\xff\xff", "\xdc\xff\xff", "\xde\xff\xff"},
		{65536, "\x7a\x00\x01\x00\x00", "\xdb\x00\x01\x00\x00", "\xc6\x00\x01\x00\x00", "\xdd\x00\x01\x00\x00", "\xdf\x00\x01\x00\x00"},
	} {
		text := things.Text(make([]byte, k.length))
		list, entries := make(things.List, k.length), make(things.Map, k.length)
		for i := range k.length {
			list[i], entries[i].Thing = things.Nothing{}, things.Nothing{}
		}
		// The sort of CBOR's heads is in their upper three bits: the rest is the same for all.
		sorted := func(sort byte) string { return string([]byte{sort<<5 | k.cbor[0]&31}) + k.cbor[1:] }
		for _, w := range []struct {
			format int
			thing  things.Thing
			head   string
			rest   int
		}{
			{api.CBOR, text, sorted(3), k.length}, {api.CBOR, things.Bytes(text), sorted(2), k.length}, {api.CBOR, list, sorted(4), k.length}, {api.CBOR, entries, sorted(5), 2 * k.length},
			{api.Pack, text, k.text, k.length}, {api.Pack, things.Bytes(text), k.bytes, k.length}, {api.Pack, list, k.list, k.length}, {api.Pack, entries, k.maps, 2 * k.length},
		} {
			got := Document(w.format, w.thing)
			if !bytes.HasPrefix(got, []byte(w.head)) || len(got) != len(w.head)+w.rest {
				t.Errorf("%T of the length %d in the format %d: %x.., %d bytes", w.thing, k.length, w.format, got[:min(9, len(got))], len(got))
			}
		}
	}
}
