package redact_test

import (
	"bytes"
	"fmt"
	"math/rand"
	"slices"
	"strconv"
	"strings"
	"testing"

	"redact/api"
	"redact/redact"
)

var formats = []int{api.JSON, api.CBOR, api.Pack}

// answer is what Transcode answers.
type answer struct {
	text  string
	errno api.Errno
	place int
}

func (a answer) String() string {
	return fmt.Sprintf("%.60q, %d, %d", a.text, a.errno, a.place)
}

func transcode(in, out, depth, limit int, text string) answer {
	b, errno, place := redact.Transcode(in, out, depth, limit, []byte(text))
	return answer{string(b), errno, place}
}

func wantDocument(t *testing.T, in int, out int, text string, want string) {
	t.Helper()
	if got := transcode(in, out, api.MaxDepth, api.MaxBytes, text); got != (answer{text: want}) {
		t.Errorf("P6: Transcode(%d, %d, %.60q) = %v, want %.60q", in, out, text, got, want)
	}
}

// wantError asks for all three formats that the document might go out in: they say nothing about reading.
func wantError(t *testing.T, in int, depth int, limit int, text string, errno api.Errno, place int) {
	t.Helper()
	for _, out := range formats {
		b, e, p := redact.Transcode(in, out, depth, limit, []byte(text))
		if b != nil || e != errno || p != place {
			t.Errorf("P6: Transcode(%d, %d, %d, %d, %.60q) = %.60q, %d, %d, want %d, %d", in, out, depth, limit, text, b, e, p, errno, place)
		}
	}
}

type wrong struct {
	text  string
	errno api.Errno
	place int
}

func wantErrors(t *testing.T, in int, list []wrong) {
	t.Helper()
	for _, w := range list {
		wantError(t, in, api.MaxDepth, api.MaxBytes, w.text, w.errno, w.place)
	}
}

func TestP6SameDocumentInEachFormat(t *testing.T) {
	for _, k := range [][3]string{
		{`null`, "\xf6", "\xc0"},
		{`true`, "\xf5", "\xc3"},
		{`false`, "\xf4", "\xc2"},
		{`""`, "\x60", "\xa0"},
		{`[]`, "\x80", "\x90"},
		{`{}`, "\xa0", "\x80"},
		{`[1,-1,24,256,"é",null]`, "\x86\x01\x20\x18\x18\x19\x01\x00\x62\xc3\xa9\xf6", "\x96\x01\xff\x18\xcd\x01\x00\xa2\xc3\xa9\xc0"},
		{`{"b":[true,[]],"a":{"b":{}},"":0}`, "\xa3\x61b\x82\xf5\x80\x61a\xa1\x61b\xa0\x60\x00", "\x83\xa1b\x92\xc3\x90\xa1a\x81\xa1b\x80\xa0\x00"},
		{`"\"\\\u0000\u0009\u001f/` + "\x7f\u0080\u2028\ufffd\U0010ffff\"", "\x73\"\\\x00\t\x1f/\x7f\u0080\u2028\ufffd\U0010ffff", "\xb3\"\\\x00\t\x1f/\x7f\u0080\u2028\ufffd\U0010ffff"},
	} {
		for i, in := range formats {
			for o, out := range formats {
				wantDocument(t, in, out, k[i], k[o])
			}
		}
	}
}

func TestP6Numbers(t *testing.T) {
	for _, k := range []struct {
		number     int
		cbor, pack string
	}{
		{0, "\x00", "\x00"}, {23, "\x17", "\x17"}, {24, "\x18\x18", "\x18"}, {127, "\x18\x7f", "\x7f"}, {128, "\x18\x80", "\xcc\x80"},
		{255, "\x18\xff", "\xcc\xff"}, {256, "\x19\x01\x00", "\xcd\x01\x00"}, {65535, "\x19\xff\xff", "\xcd\xff\xff"},
		{65536, "\x1a\x00\x01\x00\x00", "\xce\x00\x01\x00\x00"}, {1<<32 - 1, "\x1a\xff\xff\xff\xff", "\xce\xff\xff\xff\xff"},
		{1 << 32, "\x1b\x00\x00\x00\x01\x00\x00\x00\x00", "\xcf\x00\x00\x00\x01\x00\x00\x00\x00"},
		{largest, "\x1b\x7f\xff\xff\xff\xff\xff\xff\xff", "\xcf\x7f\xff\xff\xff\xff\xff\xff\xff"},
		{-1, "\x20", "\xff"}, {-24, "\x37", "\xe8"}, {-25, "\x38\x18", "\xe7"}, {-32, "\x38\x1f", "\xe0"}, {-33, "\x38\x20", "\xd0\xdf"},
		{-128, "\x38\x7f", "\xd0\x80"}, {-129, "\x38\x80", "\xd1\xff\x7f"}, {-256, "\x38\xff", "\xd1\xff\x00"}, {-257, "\x39\x01\x00", "\xd1\xfe\xff"},
		{-1 << 15, "\x39\x7f\xff", "\xd1\x80\x00"}, {-1<<15 - 1, "\x39\x80\x00", "\xd2\xff\xff\x7f\xff"},
		{-1 << 31, "\x3a\x7f\xff\xff\xff", "\xd2\x80\x00\x00\x00"}, {-1<<31 - 1, "\x3a\x80\x00\x00\x00", "\xd3\xff\xff\xff\xff\x7f\xff\xff\xff"},
		{smallest, "\x3b\x7f\xff\xff\xff\xff\xff\xff\xff", "\xd3\x80\x00\x00\x00\x00\x00\x00\x00"},
	} {
		text := strconv.Itoa(k.number)
		wantDocument(t, api.JSON, api.JSON, text, text)
		wantDocument(t, api.JSON, api.CBOR, text, k.cbor)
		wantDocument(t, api.JSON, api.Pack, text, k.pack)
		wantDocument(t, api.CBOR, api.JSON, k.cbor, text)
		wantDocument(t, api.Pack, api.JSON, k.pack, text)
	}
	wantDocument(t, api.JSON, api.JSON, "-0", "0")
}

// TestP6LongWays: a head may tell its argument in more bytes than it needs.
func TestP6LongWays(t *testing.T) {
	for _, k := range []struct {
		in         int
		text, want string
	}{
		{api.CBOR, "\x18\x05", "5"}, {api.CBOR, "\x1b\x00\x00\x00\x00\x00\x00\x00\x05", "5"}, {api.CBOR, "\x39\x00\x00", "-1"},
		{api.CBOR, "\x79\x00\x01a", `"a"`}, {api.CBOR, "\x98\x01\x01", "[1]"}, {api.CBOR, "\xba\x00\x00\x00\x01\x78\x01a\x01", `{"a":1}`},
		{api.Pack, "\xcf\x00\x00\x00\x00\x00\x00\x00\x05", "5"}, {api.Pack, "\xd0\x05", "5"}, {api.Pack, "\xd1\xff\xff", "-1"},
		{api.Pack, "\xd2\xff\xff\xff\xff", "-1"}, {api.Pack, "\xd3\xff\xff\xff\xff\xff\xff\xff\xff", "-1"}, {api.Pack, "\xd9\x01a", `"a"`},
		{api.Pack, "\xdb\x00\x00\x00\x01a", `"a"`}, {api.Pack, "\xdc\x00\x01\x01", "[1]"}, {api.Pack, "\xdf\x00\x00\x00\x01\xda\x00\x01a\x01", `{"a":1}`},
	} {
		wantDocument(t, k.in, api.JSON, k.text, k.want)
	}
	for _, text := range []string{"\xc4\x01z", "\xc5\x00\x01z", "\xc6\x00\x00\x00\x01z"} {
		wantDocument(t, api.Pack, api.CBOR, text, "\x41z")
	}
}

func TestP6Lengths(t *testing.T) {
	for length, heads := range map[int][3]string{ // a text in CBOR and MessagePack, bytes in MessagePack
		23: {"\x77", "\xb7", "\xc4\x17"}, 24: {"\x78\x18", "\xb8", "\xc4\x18"}, 31: {"\x78\x1f", "\xbf", "\xc4\x1f"}, 32: {"\x78\x20", "\xd9\x20", "\xc4\x20"},
		255: {"\x78\xff", "\xd9\xff", "\xc4\xff"}, 256: {"\x79\x01\x00", "\xda\x01\x00", "\xc5\x01\x00"},
	} {
		text := strings.Repeat("x", length)
		wantDocument(t, api.JSON, api.CBOR, `"`+text+`"`, heads[0]+text)
		wantDocument(t, api.JSON, api.Pack, `"`+text+`"`, heads[1]+text)
		wantDocument(t, api.Pack, api.Pack, "\xc6\x00\x00"+string([]byte{byte(length >> 8), byte(length)})+text, heads[2]+text)
	}
	for length, heads := range map[int][4]string{ // lists, then maps
		15: {"\x8f", "\x9f", "\xaf", "\x8f"}, 16: {"\x90", "\xdc\x00\x10", "\xb0", "\xde\x00\x10"}, 23: {"\x97", "\xdc\x00\x17", "\xb7", "\xde\x00\x17"},
		24: {"\x98\x18", "\xdc\x00\x18", "\xb8\x18", "\xde\x00\x18"}, 300: {"\x99\x01\x2c", "\xdc\x01\x2c", "\xb9\x01\x2c", "\xde\x01\x2c"},
	} {
		list := strings.Repeat("\x07", length)
		wantDocument(t, api.CBOR, api.Pack, heads[0]+list, heads[1]+list)
		wantDocument(t, api.Pack, api.CBOR, heads[1]+list, heads[0]+list)
		var cbor, pack string
		for i := range length {
			key := string(rune('Ā' + i))
			cbor, pack = cbor+"\x62"+key+"\x07", pack+"\xa2"+key+"\x07"
		}
		wantDocument(t, api.CBOR, api.Pack, heads[2]+cbor, heads[3]+pack)
		wantDocument(t, api.Pack, api.CBOR, heads[3]+pack, heads[2]+cbor)
	}
}

func TestP6JSON(t *testing.T) {
	wantDocument(t, api.JSON, api.JSON, "\r\n\t { \"b\" : [ true , false ] ,\t\"a\":{ }, \"\":[\n]\r\n} ", `{"b":[true,false],"a":{},"":[]}`)
	wantDocument(t, api.JSON, api.JSON, `"\"\\\/\b\f\n\r\t\u00e9\u00E9\u20aC"`, `"\"\\/\u0008\u000c\u000a\u000d\u0009éé€"`)
	wantDocument(t, api.JSON, api.JSON, `"\ud800\udc00\uD83D\uDe00\udbff\udfff\ud7ff\ue000\uffff"`, "\"\U00010000\U0001f600\U0010ffff\ud7ff\ue000\uffff\"")
	wantDocument(t, api.JSON, api.JSON, "{\"\\u0061\":1,\"A\":{\"a\":[{\"a\":2},{\"a\":3}]},\"\":4}", `{"a":1,"A":{"a":[{"a":2},{"a":3}]},"":4}`)
}

func TestP6ErrorsInJSON(t *testing.T) {
	wantErrors(t, api.JSON, []wrong{
		// the document
		{"", api.ErrForm, 0}, {" \t\n\r", api.ErrForm, 4}, {"\v1", api.ErrForm, 0}, {"\u00a01", api.ErrForm, 0}, {"1 2", api.ErrForm, 2}, {"[]\x00", api.ErrForm, 2}, {"\"\"\"", api.ErrForm, 2}, {"\ufeff1", api.ErrForm, 0},
		{"nul", api.ErrForm, 3}, {"nulx", api.ErrForm, 3}, {"Null", api.ErrForm, 0}, {"truE", api.ErrForm, 3}, {"fals e", api.ErrForm, 4}, {"nullnull", api.ErrForm, 4}, {"'a'", api.ErrForm, 0},
		// numbers
		{"[1,2.5]", api.ErrNumber, 4}, {"[1,02]", api.ErrForm, 4}, {"9223372036854775808", api.ErrNumber, 18}, {"-9223372036854775809", api.ErrNumber, 19}, {"18446744073709551617", api.ErrNumber, 19}, {"10000000000000000000.", api.ErrNumber, 19},
		{"-", api.ErrForm, 1}, {"- 1", api.ErrForm, 1}, {"--1", api.ErrForm, 1}, {"-e", api.ErrForm, 1}, {"-.", api.ErrForm, 1}, {"+1", api.ErrForm, 0}, {".5", api.ErrForm, 0}, {"00", api.ErrForm, 1}, {"-00", api.ErrForm, 2}, {"0e", api.ErrNumber, 1}, {"-0.", api.ErrNumber, 2}, {"1E5", api.ErrNumber, 1}, {"1 .", api.ErrForm, 2}, {"1x", api.ErrForm, 1}, {"1-", api.ErrForm, 1},
		// lists and maps
		{"[1", api.ErrForm, 2}, {"[,1]", api.ErrForm, 1}, {"[1,]", api.ErrForm, 3}, {"[1,,2]", api.ErrForm, 3}, {"[1 2]", api.ErrForm, 3}, {"[1:2]", api.ErrForm, 2}, {"[}", api.ErrForm, 1}, {"[1}", api.ErrForm, 2}, {"]", api.ErrForm, 0}, {"[]]", api.ErrForm, 2},
		{"{,}", api.ErrForm, 1}, {"{1:2}", api.ErrForm, 1}, {"{[", api.ErrForm, 1}, {`{"a"}`, api.ErrForm, 4}, {`{"a",1}`, api.ErrForm, 4}, {`{"a":}`, api.ErrForm, 5}, {`{"a":1,}`, api.ErrForm, 7}, {`{"a":1 "b":2}`, api.ErrForm, 7}, {`{"a":1]`, api.ErrForm, 6}, {`{"a"`, api.ErrForm, 4}, {`{"a":`, api.ErrForm, 5}, {`{`, api.ErrForm, 1},
		{`{"a":1,"a"`, api.ErrTwice, 9}, {`{"a":1,"\u0061":2}`, api.ErrTwice, 14}, {`{"":1,"b":2,"":3}`, api.ErrTwice, 13}, {`{"😀":1,"\ud83d\ude00"`, api.ErrTwice, 23}, {`[{"a":{"a":{"b":1,"b"`, api.ErrTwice, 20},
		// texts
		{`"`, api.ErrForm, 1}, {`"a`, api.ErrForm, 2}, {"\"\n\"", api.ErrForm, 1}, {"\"\x1f\"", api.ErrForm, 1}, {"\"\x00", api.ErrForm, 1}, {`"\x"`, api.ErrForm, 2}, {`"\U0041"`, api.ErrForm, 2}, {`"\`, api.ErrForm, 2}, {`"\u`, api.ErrForm, 3}, {`"\u00e"`, api.ErrForm, 6}, {`"\u12g4"`, api.ErrForm, 5}, {`"\u+123"`, api.ErrForm, 3},
		{`"\udc00"`, api.ErrForm, 6}, {`"\udfff`, api.ErrForm, 6}, {`"\ud800"`, api.ErrForm, 7}, {`"\ud800x"`, api.ErrForm, 7}, {`"\ud800`, api.ErrForm, 7}, {`"\ud800\n"`, api.ErrForm, 8}, {`"\ud800\"`, api.ErrForm, 8}, {`"\ud800\u0041"`, api.ErrForm, 12}, {`"\ud800\ud800\udc00"`, api.ErrForm, 12}, {`"\udbff\ue000"`, api.ErrForm, 12}, {`"\ud800\udbff"`, api.ErrForm, 12}, {`"\ud800\ux`, api.ErrForm, 9},
	})
}

// TestP6Digits puts every byte in the place of each hexadecimal digit.
func TestP6Digits(t *testing.T) {
	for b := range 256 {
		value := strings.IndexByte("0123456789abcdef", byte(b))
		if b >= 'A' && b <= 'F' {
			value = b - 'A' + 10
		}
		for digit := range 4 {
			digits := []byte("0000")
			digits[digit] = byte(b)
			text := `"\u` + string(digits) + `"`
			if value < 0 {
				wantErrors(t, api.JSON, []wrong{{text, api.ErrForm, 3 + digit}})
			} else if char := string(rune(value << (12 - 4*digit))); value<<(12-4*digit) != 0xd000 {
				wantDocument(t, api.JSON, api.Pack, text, string([]byte{0xa0 + byte(len(char))})+char)
			}
		}
	}
}

// TestP6Characters: wrong characters, in a text of each format.
func TestP6Characters(t *testing.T) {
	for _, k := range []struct {
		bytes string
		place int // of the byte with which they stop to begin a character
	}{
		{"\x80xx", 0}, {"\xbfxx", 0}, {"\xc0\x80x", 0}, {"\xc1\xbfx", 0}, {"\xf5\x80\x80", 0}, {"\xff\xff\xff", 0}, {"\xc3\x28x", 1}, {"\xc3\xc3\xa9", 1}, {"x\xdf\xc0", 2},
		{"\xe0\x9f\xbf", 1}, {"\xed\xa0\x80", 1}, {"\xed\xbf\xbf", 1}, {"\xf0\x8f\xbf", 1}, {"\xf4\x90\x80", 1}, {"\xe2\x82\x28", 2}, {"\xe2\x28\xa1", 1}, {"\xf0\x9f\xc0", 2}, {"\xf0\x9f\x98\x00", 3}, {"é\xe2\x82é", 4},
	} {
		length := byte(len(k.bytes))
		wantErrors(t, api.JSON, []wrong{{`"` + k.bytes + `"`, api.ErrForm, 1 + k.place}, {`{"` + k.bytes, api.ErrForm, 2 + k.place}})
		wantErrors(t, api.CBOR, []wrong{{string([]byte{0x60 + length}) + k.bytes, api.ErrForm, 1 + k.place}, {string([]byte{0xa1, 0x60 + length}) + k.bytes, api.ErrForm, 2 + k.place}})
		wantErrors(t, api.Pack, []wrong{{string([]byte{0xa0 + length}) + k.bytes, api.ErrForm, 1 + k.place}, {string([]byte{0x81, 0xa0 + length}) + k.bytes, api.ErrForm, 2 + k.place}})
	}
	for _, begun := range []string{"\xc3", "\xe2", "\xe2\x82", "\xf0\x9f", "\xf0\x9f\x98", "é\xf4\x8f\xbf"} {
		length := len(begun)
		wantErrors(t, api.JSON, []wrong{{`"` + begun + `"`, api.ErrForm, 1 + length}, {`"` + begun + `\n"`, api.ErrForm, 1 + length}, {`"` + begun, api.ErrForm, 1 + length}})
		wantErrors(t, api.CBOR, []wrong{{string([]byte{0x60 + byte(length)}) + begun, api.ErrForm, length}, {string([]byte{0x61 + byte(length)}) + begun, api.ErrForm, 1 + length}})
		wantErrors(t, api.Pack, []wrong{{"\xd9" + string([]byte{byte(length)}) + begun, api.ErrForm, 1 + length}, {string([]byte{0xa1 + byte(length)}) + begun, api.ErrForm, 1 + length}})
	}
}

func TestP6ErrorsInCBOR(t *testing.T) {
	wantErrors(t, api.CBOR, []wrong{
		{"", api.ErrForm, 0}, {"\x81\xff", api.ErrForm, 1}, {"\x01\x00", api.ErrForm, 1}, {"\x01 ", api.ErrForm, 1}, {" 1", api.ErrForm, 1},
		{"\x1c", api.ErrForm, 0}, {"\x3f\x00", api.ErrForm, 0}, {"\x5f\xff", api.ErrForm, 0}, {"\x9f\xff", api.ErrForm, 0}, {"\xbe", api.ErrForm, 0}, {"\xc1\x00", api.ErrForm, 0}, {"\xd8\x00\x01", api.ErrForm, 0},
		{"\xe0", api.ErrForm, 0}, {"\xf3", api.ErrForm, 0}, {"\xf7", api.ErrForm, 0}, {"\xf8\x14", api.ErrForm, 0}, {"\xf9\x00\x00", api.ErrForm, 0}, {"\xfb", api.ErrForm, 0}, {"\xff", api.ErrForm, 0},
		{"\x18", api.ErrForm, 1}, {"\x1b\x00\x00", api.ErrForm, 3}, {"\x82\x01", api.ErrForm, 2}, {"\x43ab", api.ErrForm, 3}, {"\x63ab", api.ErrForm, 3}, {"\xa1", api.ErrForm, 1}, {"\xa1\x61", api.ErrForm, 2}, {"\xa1\x61a", api.ErrForm, 3},
		{"\x1b\x80\x00\x00\x00\x00\x00\x00\x00\x05", api.ErrNumber, 8}, {"\x3b\x80\x00\x00\x00\x00\x00\x00\x00", api.ErrNumber, 8}, {"\x81\x3b\xff\xff\xff\xff\xff\xff\xff\xff", api.ErrNumber, 9},
		{"\xa1\x01\x01", api.ErrForm, 1}, {"\xa1\x41a\x01", api.ErrForm, 1}, {"\xa1\x80", api.ErrForm, 1}, {"\xa1\xf6", api.ErrForm, 1}, {"\xa1\x7f", api.ErrForm, 1}, {"\xa2\x60\x01\x20", api.ErrForm, 3},
		{"\xa2\x61a\x01\x61a", api.ErrTwice, 5}, {"\xa2\x60\x01\x60\x01", api.ErrTwice, 3}, {"\xa2\x60\x01\x79\x00\x00\x01", api.ErrTwice, 5}, {"\xa3\x61a\x01\x61b\x02\x78\x01a\x03", api.ErrTwice, 9},
		{"\x9b\xff\xff\xff\xff\xff\xff\xff\xff\x01", api.ErrForm, 10}, {"\xbb\xff\xff\xff\xff\xff\xff\xff\xff", api.ErrForm, 9}, {"\x7b\xff\xff\xff\xff\xff\xff\xff\xffa\x80", api.ErrForm, 10}, {"\x5b\xff\xff\xff\xff\xff\xff\xff\xff\x80", api.ErrForm, 10},
	})
}

func TestP6ErrorsInPack(t *testing.T) {
	wantErrors(t, api.Pack, []wrong{
		{"", api.ErrForm, 0}, {"\xc1", api.ErrForm, 0}, {"\xc7\x00", api.ErrForm, 0}, {"\xc9", api.ErrForm, 0}, {"\xca\x00\x00\x00\x00", api.ErrForm, 0}, {"\xcb", api.ErrForm, 0}, {"\xd4\x00", api.ErrForm, 0}, {"\xd8", api.ErrForm, 0}, {"\x91\xc1", api.ErrForm, 1},
		{"\x01\x00", api.ErrForm, 1}, {"\xc0\xc0", api.ErrForm, 1}, {"\xcc", api.ErrForm, 1}, {"\xd3\x80", api.ErrForm, 2}, {"\xc4", api.ErrForm, 1}, {"\xc4\x02a", api.ErrForm, 3}, {"\xd9\x02a", api.ErrForm, 3}, {"\x92\xc0", api.ErrForm, 2}, {"\xdc\x00", api.ErrForm, 2}, {"\x81", api.ErrForm, 1}, {"\x81\xa1a", api.ErrForm, 3},
		{"\xcf\x80\x00\x00\x00\x00\x00\x00\x00\x05", api.ErrNumber, 8}, {"\x91\xcf\xff\xff\xff\xff\xff\xff\xff\xff", api.ErrNumber, 9},
		{"\x81\x01\x01", api.ErrForm, 1}, {"\x81\xc4\x00\x01", api.ErrForm, 1}, {"\x81\x90", api.ErrForm, 1}, {"\x81\xc0", api.ErrForm, 1}, {"\x81\xff", api.ErrForm, 1}, {"\x81\xc1", api.ErrForm, 1},
		{"\x82\xa1a\x01\xd9\x01a\x02", api.ErrTwice, 6}, {"\x82\xa0\x01\xa0\x01", api.ErrTwice, 3}, {"\x82\xa0\x01\xda\x00\x00\x01", api.ErrTwice, 5},
		{"\xdd\xff\xff\xff\xff\x01", api.ErrForm, 6}, {"\xdf\xff\xff\xff\xff", api.ErrForm, 5}, {"\xc6\xff\xff\xff\xff\x01", api.ErrForm, 6}, {"\xdb\xff\xff\xff\xff\x01\x80", api.ErrForm, 6},
	})
}

// TestP6FirstBytes asks for each first byte with nothing behind it: it is a thing, or one that goes on, or none.
func TestP6FirstBytes(t *testing.T) {
	for first := range 256 {
		text := string([]byte{byte(first)})
		upper, lower := first>>5, first&31
		whole := upper < 2 && lower < 24 || upper < 6 && lower == 0 || first >= 0xf4 && first <= 0xf6
		begins := whole || upper < 6 && lower < 28
		wantFirst(t, api.CBOR, text, whole, begins)
		whole = first <= 128 || first == 144 || first == 160 || first == 192 || first == 194 || first == 195 || first >= 224
		begins = first != 193 && !(first >= 199 && first <= 203) && !(first >= 212 && first <= 216)
		wantFirst(t, api.Pack, text, whole, begins)
	}
}

func wantFirst(t *testing.T, in int, text string, whole bool, begins bool) {
	t.Helper()
	got := transcode(in, in, 1, 9, text)
	want := answer{errno: api.ErrForm}
	switch {
	case whole:
		want = answer{text: text}
	case begins:
		want.place = 1
	}
	if got != want {
		t.Errorf("P6: the byte %x alone in %d is %v, want %v", text, in, got, want)
	}
}

func TestP6Depth(t *testing.T) {
	for depth := 1; depth <= api.MaxDepth; depth++ {
		for in, k := range map[int][3]string{ // what opens a list, the innermost, what closes a list
			api.JSON: {"[", "[]", "]"}, api.CBOR: {"\x81", "\x80", ""}, api.Pack: {"\x91", "\x90", ""},
		} {
			deepest := strings.Repeat(k[0], depth-1) + k[1] + strings.Repeat(k[2], depth-1)
			if got := transcode(in, in, depth, api.MaxBytes, deepest); got != (answer{text: deepest}) {
				t.Errorf("P6: Depth %d: Transcode(%d, %q) = %v", depth, in, deepest, got)
			}
			wantError(t, in, depth, api.MaxBytes, k[0]+deepest+k[2], api.ErrDepth, depth)
		}
	}
	wantError(t, api.JSON, 1, 99, `{"a":{}}`, api.ErrDepth, 5)
	wantError(t, api.JSON, 2, 99, `[[],{},[[]]]`, api.ErrDepth, 8)
	wantError(t, api.CBOR, 1, 99, "\x82\x80\x01", api.ErrDepth, 1)
	wantError(t, api.CBOR, 1, 99, "\x81\xbb", api.ErrDepth, 1)
	wantError(t, api.CBOR, 1, 99, "\x81\x9c", api.ErrForm, 1)
	wantError(t, api.CBOR, 1, 99, "\xa1\x80", api.ErrForm, 1)
	wantError(t, api.Pack, 2, 99, "\x81\xa0\x91\xdf", api.ErrDepth, 3)
	wantDocument(t, api.JSON, api.CBOR, "[[],[[]],{\"a\":[]},[]]", "\x84\x80\x81\x80\xa1\x61a\x80\x80")
}

func TestP6Bytes(t *testing.T) {
	for _, k := range []struct {
		in, limit int
		text      string
		errno     api.Errno
		place     int
	}{
		{api.JSON, 5, "[1,2]]", api.ErrSize, 5}, {api.JSON, 5, "[1,2] ", api.ErrSize, 5}, {api.JSON, 5, "[1,2,", api.ErrForm, 5}, {api.JSON, 5, "[1,2,x", api.ErrSize, 5}, {api.JSON, 5, "[1,x,3]", api.ErrForm, 3},
		{api.JSON, 3, "123.", api.ErrSize, 3}, {api.JSON, 3, "1234", api.ErrSize, 3}, {api.JSON, 1, "0 ", api.ErrSize, 1}, {api.JSON, 3, "1.34", api.ErrNumber, 1}, {api.JSON, 1, "-1", api.ErrSize, 1}, {api.JSON, 1, "[]", api.ErrSize, 1}, {api.JSON, 2, "\"\xc3\xa9\"", api.ErrSize, 2}, {api.JSON, 3, "nulx", api.ErrSize, 3}, {api.JSON, 9, `{"a":1,"a"`, api.ErrSize, 9}, {api.JSON, 4, "[[[[[", api.ErrSize, 4},
		{api.CBOR, 3, "\x63\xe2\x82\xac", api.ErrSize, 3}, {api.CBOR, 2, "\x82\x01\x02", api.ErrSize, 2}, {api.CBOR, 8, "\x1b\x80\x00\x00\x00\x00\x00\x00\x00", api.ErrSize, 8}, {api.CBOR, 2, "\x42ab", api.ErrSize, 2}, {api.CBOR, 1, "\x00\x00", api.ErrSize, 1},
		{api.Pack, 1, "\xcc\x01", api.ErrSize, 1}, {api.Pack, 1, "\x81\x01", api.ErrSize, 1}, {api.Pack, 5, "\x82\xa1a\x01\xa1a", api.ErrSize, 5},
		{api.JSON, 4096, strings.Repeat(" ", 5000), api.ErrSize, 4096}, {api.JSON, 4096, strings.Repeat(" ", 4096), api.ErrForm, 4096}, {api.JSON, 1, strings.Repeat("\n", 1<<20), api.ErrSize, 1},
	} {
		wantError(t, k.in, 4, k.limit, k.text, k.errno, k.place)
	}
	for in, text := range map[int]string{api.JSON: `"` + strings.Repeat("x", api.MaxBytes-2) + `"`, api.CBOR: "\x59\x0f\xfd" + strings.Repeat("x", api.MaxBytes-3), api.Pack: "\xc5\x0f\xfd" + strings.Repeat("x", api.MaxBytes-3)} {
		wantDocument(t, in, in, text, text)
		if got := transcode(in, in, 1, api.MaxBytes-1, text); got != (answer{errno: api.ErrSize, place: api.MaxBytes - 1}) {
			t.Errorf("P6: %d bytes where one less may be: %d, %d", len(text), got.errno, got.place)
		}
	}
	// What is written has no limit.
	wantDocument(t, api.CBOR, api.JSON, "\x79\x0f\xfd"+strings.Repeat("\x00", api.MaxBytes-3), `"`+strings.Repeat(`\u0000`, api.MaxBytes-3)+`"`)
}

func TestP6Arguments(t *testing.T) {
	for _, k := range [][4]int{{0, 1, 1, 1}, {4, 1, 1, 1}, {1, 0, 1, 1}, {1, 4, 1, 1}, {1, 1, 0, 1}, {1, 1, 17, 1}, {1, 1, 1, 0}, {1, 1, 1, 4097}, {smallest, largest, largest, smallest}, {-1, 1, 1, 1}, {1, -1, 1, 1}, {1, 1, -1, 1}, {1, 1, 1, -1}, {1, 1, largest, 1}, {1, 1, 1, largest}} {
		for _, text := range []string{"", "1", "x", "xxxxx"} {
			if b, e, p := redact.Transcode(k[0], k[1], k[2], k[3], []byte(text)); b != nil || e != api.ErrArg || p != 0 {
				t.Errorf("P6: Transcode(%v, %q) = %q, %d, %d, want ErrArg", k, text, b, e, p)
			}
		}
	}
}

// TestP6Kind: there are no bytes in JSON, wherever they stand; an error of reading counts ahead of that.
func TestP6Kind(t *testing.T) {
	for _, k := range []struct {
		in   int
		text string
	}{{api.CBOR, "\x40"}, {api.CBOR, "\x41\x00"}, {api.CBOR, "\x82\x01\x41a"}, {api.CBOR, "\xa1\x61a\x81\x81\x40"}, {api.Pack, "\xc4\x00"}, {api.Pack, "\x81\xa0\xc4\x01z"}} {
		if b, e, p := redact.Transcode(k.in, api.JSON, 4, 99, []byte(k.text)); b != nil || e != api.ErrKind || p != 0 {
			t.Errorf("P6: %x in JSON: %q, %d, %d, want ErrKind", k.text, b, e, p)
		}
	}
	wantError(t, api.CBOR, 4, 99, "\x82\x41a", api.ErrForm, 3)
	wantError(t, api.CBOR, 4, 99, "\x41a\x00", api.ErrForm, 2)
	wantDocument(t, api.CBOR, api.Pack, "\x82\x40\x43abc", "\x92\xc4\x00\xc4\x03abc")
	wantDocument(t, api.Pack, api.CBOR, "\x81\xa0\xc4\x02\xff\xc3", "\xa1\x60\x42\xff\xc3")
}

// TestP6Places: an error is at the first byte with which something is wrong, so all that stands behind this byte counts for nothing, and what stands ahead of it is right as far as it goes.
func TestP6Places(t *testing.T) {
	r := rand.New(rand.NewSource(2))
	for range 30000 {
		in := formats[r.Intn(3)]
		text := drawn(r, in)
		depth, limit := 1+r.Intn(4), []int{1 + r.Intn(40), api.MaxBytes}[r.Intn(2)]
		got := transcode(in, api.CBOR, depth, limit, text)
		switch {
		case got.errno == api.OK:
		case got.errno < api.ErrSize || got.errno > api.ErrTwice || got.place < 0 || got.place > len(text) || got.place == len(text) && got.errno != api.ErrForm:
			t.Fatalf("P6: Transcode(%d, %q) = %d, %d", in, text, got.errno, got.place)
		case got.place < len(text):
			for _, other := range []string{text[:got.place+1], text[:got.place+1] + "\x00", text[:got.place+1] + drawn(r, in)} {
				if again := transcode(in, api.CBOR, depth, limit, other); again != got {
					t.Fatalf("P6: Transcode(%d, %q) = %v, but of %q %v", in, text, got, other, again)
				}
			}
			ahead := transcode(in, api.CBOR, depth, limit, text[:got.place])
			if ahead.errno != api.OK && ahead != (answer{errno: api.ErrForm, place: got.place}) {
				t.Fatalf("P6: Transcode(%d, %q) = %v, but ahead of it %v", in, text, got, ahead)
			}
		}
	}
}

// drawn makes an input of a format that is a document, or nearly one.
func drawn(r *rand.Rand, in int) string {
	document, _, _ := redact.Transcode(api.CBOR, in, api.MaxDepth, api.MaxBytes, drawnCBOR(r, 3, false))
	for range r.Intn(3) {
		if at := r.Intn(len(document) + 1); at < len(document) {
			switch r.Intn(4) {
			case 0:
				document[at] = byte(r.Intn(256))
			case 1:
				document[at] += byte(r.Intn(3) - 1)
			case 2:
				document = slices.Insert(document, at, byte(r.Intn(256)))
			case 3:
				document = append(document[:at], document[min(at+r.Intn(3), len(document)):]...)
			}
		}
	}
	return string(document)
}

// drawnCBOR makes a document in CBOR.
func drawnCBOR(r *rand.Rand, depth int, withBytes bool) []byte {
	kinds := 5
	if depth == 0 {
		kinds = 3
	}
	switch r.Intn(kinds) {
	case 0:
		return []byte{0xf4 + byte(r.Intn(3))}
	case 1:
		number := r.Uint64() >> (1 + r.Intn(63))
		head := []byte{byte(r.Intn(2))<<5 | 27}
		for shift := 56; shift >= 0; shift -= 8 {
			head = append(head, byte(number>>shift))
		}
		return head
	case 2:
		if withBytes && r.Intn(3) == 0 {
			return []byte{0x43, byte(r.Intn(256)), 0xff, 0}
		}
		return drawnText(r)
	case 3:
		out := []byte{0x98, byte(r.Intn(3) * r.Intn(10))}
		for range out[1] {
			out = append(out, drawnCBOR(r, depth-1, withBytes)...)
		}
		return out
	default:
		out := []byte{0xb8, byte(r.Intn(3) * r.Intn(10))}
		for i := range out[1] {
			out = append(append(out, 0x62, 'a'+i, "xyz\x00\"\\"[r.Intn(6)]), drawnCBOR(r, depth-1, withBytes)...)
		}
		return out
	}
}

func drawnText(r *rand.Rand) []byte {
	parts := []string{"a", "\"", "\\", "\n", "\x00", "\x7f", "é", "€", "😀", "\ufffd", "\u2028"}
	text := ""
	for range r.Intn(4) * r.Intn(4) {
		text += parts[r.Intn(len(parts))]
	}
	return append([]byte{0x78, byte(len(text))}, text...)
}

func TestP14(t *testing.T) {
	r := rand.New(rand.NewSource(3))
	for range 20000 {
		withBytes := r.Intn(2) == 0
		document := string(drawnCBOR(r, 3, withBytes))
		among := formats
		if withBytes {
			among = formats[1:]
		}
		out, other := among[r.Intn(len(among))], among[r.Intn(len(among))]
		written := transcode(api.CBOR, out, api.MaxDepth, api.MaxBytes, document)
		if written.errno != api.OK || written.place != 0 {
			t.Fatalf("P6: Transcode(CBOR, %d, %x) = %v", out, document, written)
		}
		if len(written.text) > api.MaxBytes {
			continue
		}
		if again := transcode(out, out, api.MaxDepth, api.MaxBytes, written.text); again != written {
			t.Fatalf("P14: %.60q is written in %d as %v", written.text, out, again)
		}
		there := transcode(out, other, api.MaxDepth, api.MaxBytes, written.text)
		if len(there.text) > api.MaxBytes {
			continue
		}
		if back := transcode(other, out, api.MaxDepth, api.MaxBytes, there.text); there.errno != api.OK || back != written {
			t.Fatalf("P14: %.60q from %d to %d and back is %v", written.text, out, other, back)
		}
	}
}

// TestP14Looser: an input that is written looser becomes the same as one that is written as it should.
func TestP14Looser(t *testing.T) {
	for _, k := range []struct {
		in         int
		loose, own string
	}{
		{api.JSON, " [ \"\\u0041\\/\" , -0 ] ", `["A/",0]`},
		{api.CBOR, "\x9a\x00\x00\x00\x02\x79\x00\x02A/\x39\x00\x07", "\x82\x62A/\x27"},
		{api.Pack, "\xdd\x00\x00\x00\x02\xdb\x00\x00\x00\x02A/\xd3\x00\x00\x00\x00\x00\x00\x00\x07", "\x92\xa2A/\x07"},
	} {
		wantDocument(t, k.in, k.in, k.loose, k.own)
		for _, out := range formats {
			loose, own := transcode(k.in, out, 4, 99, k.loose), transcode(k.in, out, 4, 99, k.own)
			back := transcode(out, k.in, 4, 99, loose.text)
			if loose != own || back != (answer{text: k.own}) {
				t.Errorf("P14: %q in %d is %v, %q is %v, and back it is %v", k.loose, out, loose, k.own, own, back)
			}
		}
	}
}

func TestP7(t *testing.T) {
	long := `"` + strings.Repeat("x", api.MaxBucket-2) + `"`
	for _, k := range []struct {
		format int
		text   string
		want   string
	}{
		{api.JSON, "12  ", "12"}, {api.JSON, "12", "12"}, {api.JSON, "-0 ", "-0"}, {api.JSON, "null ", "null"}, {api.JSON, `" "  `, `" "`}, {api.JSON, "[ 1\n, 2 ]   ", "[ 1\n, 2 ]"}, {api.JSON, `{ "a" : "\u0041" } `, `{ "a" : "\u0041" }`},
		{api.JSON, "1" + strings.Repeat(" ", api.MaxBucket-1), "1"}, {api.JSON, long, long}, {api.JSON, strings.Repeat("[", 16) + strings.Repeat("]", 16) + " ", strings.Repeat("[", 16) + strings.Repeat("]", 16)},
		{api.CBOR, "\x01\x00\x00", "\x01"}, {api.CBOR, "\x00\x00", "\x00"}, {api.CBOR, "\x00", "\x00"}, {api.CBOR, "\x18\x01", "\x18\x01"}, {api.CBOR, "\x42\x00\x00\x00\x00", "\x42\x00\x00"}, {api.CBOR, "\x60\x00", "\x60"}, {api.CBOR, "\x80\x00", "\x80"},
		{api.Pack, "\x92\x00\x00\x00", "\x92\x00\x00"}, {api.Pack, "\xc4\x01\x00\x00", "\xc4\x01\x00"}, {api.Pack, "\xa0\x00\x00", "\xa0"}, {api.Pack, "\x00" + strings.Repeat("\x00", api.MaxBucket-1), "\x00"},
	} {
		if b, e := redact.Unpad(k.format, []byte(k.text)); e != api.OK || string(b) != k.want {
			t.Errorf("P7: Unpad(%d, %.40q) = %.40q, %d, want %.40q", k.format, k.text, b, e, k.want)
		}
	}
}

func TestP7Wrong(t *testing.T) {
	for _, k := range []struct {
		format int
		text   string
		errno  api.Errno
	}{
		{api.JSON, "", api.ErrForm}, {api.JSON, " ", api.ErrForm}, {api.JSON, " 12", api.ErrForm}, {api.JSON, "\n12", api.ErrForm}, {api.JSON, "12 \n", api.ErrForm}, {api.JSON, "12\t", api.ErrForm}, {api.JSON, "12 x", api.ErrForm}, {api.JSON, "12 3", api.ErrForm}, {api.JSON, "1\x00", api.ErrForm}, {api.JSON, "nullx", api.ErrForm},
		{api.JSON, "1.5", api.ErrForm}, {api.JSON, "1e ", api.ErrForm}, {api.JSON, "01", api.ErrForm}, {api.JSON, "9223372036854775808", api.ErrForm}, {api.JSON, "-", api.ErrForm}, {api.JSON, "[", api.ErrForm}, {api.JSON, "[]]", api.ErrForm}, {api.JSON, `{"a":1,"a":2}`, api.ErrForm}, {api.JSON, "\"\xff\"", api.ErrForm}, {api.JSON, strings.Repeat("[", 17) + strings.Repeat("]", 17), api.ErrForm},
		{api.CBOR, "", api.ErrForm}, {api.CBOR, "\x01\x00\x02", api.ErrForm}, {api.CBOR, "\x01 ", api.ErrForm}, {api.CBOR, "\x82\x00", api.ErrForm}, {api.CBOR, "\xff", api.ErrForm}, {api.CBOR, "\x1b\x80\x00\x00\x00\x00\x00\x00\x00", api.ErrForm}, {api.CBOR, "\xa2\x60\x00\x60\x00", api.ErrForm}, {api.CBOR, strings.Repeat("\x81", 16) + "\x80", api.ErrForm},
		{api.Pack, "", api.ErrForm}, {api.Pack, "\xc1", api.ErrForm}, {api.Pack, "\xc0\xc0", api.ErrForm}, {api.Pack, "\x01  ", api.ErrForm}, {api.Pack, "\xdd\xff\xff\xff\xff" + strings.Repeat("\x00", 60000), api.ErrForm}, {api.Pack, strings.Repeat("\x91", 16) + "\x90", api.ErrForm},
		{0, "1", api.ErrArg}, {4, "1", api.ErrArg}, {-1, "", api.ErrArg}, {smallest, "x", api.ErrArg}, {largest, "x", api.ErrArg}, {0, strings.Repeat(" ", api.MaxBucket+1), api.ErrArg}, {api.JSON, "1" + strings.Repeat(" ", api.MaxBucket), api.ErrArg}, {api.CBOR, strings.Repeat("\xff", api.MaxBucket+1), api.ErrArg}, {api.Pack, strings.Repeat("\x00", 1<<20), api.ErrArg},
	} {
		if b, e := redact.Unpad(k.format, []byte(k.text)); e != k.errno || b != nil {
			t.Errorf("P7: Unpad(%d, %.40q) = %.40q, %d, want %d", k.format, k.text, b, e, k.errno)
		}
	}
}

// TestP7GivesBackWhatWasFilled: any document with any filling, and with a byte in the filling that does not belong there.
func TestP7GivesBackWhatWasFilled(t *testing.T) {
	r := rand.New(rand.NewSource(4))
	for range 5000 {
		format := formats[r.Intn(3)]
		fill := " "
		if format != api.JSON {
			fill = "\x00"
		}
		document := transcode(api.CBOR, format, api.MaxDepth, api.MaxBytes, string(drawnCBOR(r, 3, format != api.JSON))).text
		filled := document + strings.Repeat(fill, r.Intn(20))
		if b, e := redact.Unpad(format, []byte(filled)); e != api.OK || string(b) != document {
			t.Fatalf("P7: Unpad(%d, %q) = %q, %d", format, filled, b, e)
		}
		spoilt := filled + fill + "\x01" + fill
		if b, e := redact.Unpad(format, []byte(spoilt)); e != api.ErrForm || b != nil {
			t.Fatalf("P7: Unpad(%d, %q) = %q, %d", format, spoilt, b, e)
		}
	}
}

// TestP1Formats: any bytes in any format; with an error there is nothing else.
func TestP1Formats(t *testing.T) {
	r := rand.New(rand.NewSource(5))
	for range 100000 {
		b := make([]byte, r.Intn(20))
		for i := range b {
			b[i] = byte([]int{r.Intn(256), r.Intn(32), 0x80 + r.Intn(4), int("[]{}:,\"\\u0123 -"[r.Intn(15)])}[r.Intn(4)])
		}
		in, out := r.Intn(5), r.Intn(5)
		if got, e, place := redact.Transcode(in, out, r.Intn(18), r.Intn(20), b); e != api.OK && got != nil || place < 0 || place > len(b) {
			t.Fatalf("P1: Transcode(%d, %d, %q) = %q, %d, %d", in, out, b, got, e, place)
		}
		if got, e := redact.Unpad(in, b); e != api.OK && got != nil {
			t.Fatalf("P1: Unpad(%d, %q) = %q, %d", in, b, got, e)
		}
	}
}

// TestP7ManyKeys: a map with as many entries as there can be, with all its keys different, and with the last one twice.
func TestP7ManyKeys(t *testing.T) {
	text := []byte{0xde, 0x3f, 0xff}
	for i := range 0x3fff {
		text = append(text, 0xa2, byte(i>>7), byte(i&127), 0xc0)
	}
	if b, e := redact.Unpad(api.Pack, append(text, 0)); e != api.OK || !bytes.Equal(b, text) {
		t.Errorf("P7: many keys: %d bytes, %d", len(b), e)
	}
	copy(text[len(text)-4:], text[len(text)-8:])
	if b, e := redact.Unpad(api.Pack, text); e != api.ErrForm || b != nil {
		t.Errorf("P7: a key twice among many: %d bytes, %d", len(b), e)
	}
}

// TestP2Formats looks at what is handed in, its spare room too, and writes into what came out and into its spare room.
func TestP2Formats(t *testing.T) {
	for format, text := range map[int]string{api.JSON: `"abc"  `, api.CBOR: "\x82\x43abc\x61a", api.Pack: "\x92\xc4\x03abc\xa1a", 0: "abc"} {
		room := []byte(text + "and the spare room")
		b := room[:len(text)]
		var lists [][]byte
		for _, out := range formats {
			got, _, _ := redact.Transcode(format, out, 4, 99, b)
			lists = append(lists, got)
		}
		unpadded, _ := redact.Unpad(format, b)
		for _, list := range append(lists, unpadded) {
			list = list[:cap(list)]
			for i := range list {
				list[i] = 'X'
			}
		}
		if string(room) != text+"and the spare room" {
			t.Errorf("P2: what was handed in is now %q", room)
		}
		first, _, _ := redact.Transcode(format, format, 4, 99, b)
		kept := bytes.Clone(first)
		for i := range room {
			room[i] = 'Y'
		}
		if !bytes.Equal(first, kept) {
			t.Errorf("P2: what came out hangs on what was handed in: %q", first)
		}
	}
}
