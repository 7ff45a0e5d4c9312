package reading

import (
	"reflect"
	"testing"

	"redact/api"
	"redact/things"
)

var wide = Limits{Depth: api.MaxDepth, Bytes: api.MaxBytes}

func TestThingsThatAreRead(t *testing.T) {
	want := things.List{
		things.Nothing{}, things.Truth(true), things.Truth(false), things.Number(-7), things.Text("é"), things.List(nil),
		things.Map{{Key: "b", Thing: things.Number(1)}, {Key: "", Thing: things.Map(nil)}},
	}
	for format, input := range map[int]string{
		api.JSON: ` [null, true, false, -7, "é", [], {"b": 1, "": {}}] `,
		api.CBOR: "\x87\xf6\xf5\xf4\x26\x62é\x80\xa2\x61b\x01\x60\xa0",
		api.Pack: "\x97\xc0\xc3\xc2\xf9\xa2é\x90\x82\xa1b\x01\xa0\x80",
	} {
		if got := Document(format, wide, []byte(input)); !reflect.DeepEqual(got, want) {
			t.Errorf("in the format %d: %#v", format, got)
		}
	}
	for format, input := range map[int]string{api.CBOR: "\x81\x42\xff\x00", api.Pack: "\x91\xc4\x02\xff\x00"} {
		if got := Document(format, wide, []byte(input)); !reflect.DeepEqual(got, things.List{things.Bytes{0xff, 0}}) {
			t.Errorf("bytes in the format %d: %#v", format, got)
		}
	}
}

// given tells what a reading panics with.
func given(read func()) (thrown any) {
	defer func() { thrown = recover() }()
	read()
	return nil
}

func TestReadingGivesUp(t *testing.T) {
	for _, k := range []struct {
		format int
		limits Limits
		input  string
		want   Failure
	}{
		{api.JSON, wide, "[[[[1,2,{\"a\":x", Failure{api.ErrForm, 13}},
		{api.JSON, wide, "[[[[1,2,{\"a\":", Failure{api.ErrForm, 13}},
		{api.JSON, wide, "[[[[1,2,{\"a\":1,\"a\"", Failure{api.ErrTwice, 17}},
		{api.JSON, Limits{4, 99}, "[[[[1,2,{\"a\":1,\"a\"", Failure{api.ErrDepth, 8}},
		{api.JSON, Limits{4, 7}, "[[[[1,2,{\"a\":1,\"a\"", Failure{api.ErrSize, 7}},
		{api.CBOR, wide, "\x81\x81\x1b\xff\xff\xff\xff\xff\xff\xff\xff", Failure{api.ErrNumber, 10}},
		{api.Pack, wide, "\x91\x91\xc1", Failure{api.ErrForm, 2}},
	} {
		if got := given(func() { Document(k.format, k.limits, []byte(k.input)) }); got != any(k.want) {
			t.Errorf("Document(%d, %v, %q) panics with %v, want %v", k.format, k.limits, k.input, got, k.want)
		}
		if got := given(func() { First(k.format, k.limits, []byte(k.input)) }); got != any(k.want) {
			t.Errorf("First(%d, %v, %q) panics with %v, want %v", k.format, k.limits, k.input, got, k.want)
		}
	}
}

// TestFirst: what follows the first thing is not looked at, but for the byte behind a number in JSON.
func TestFirst(t *testing.T) {
	for _, k := range []struct {
		format int
		input  string
		length int
	}{
		{api.JSON, "12 x", 2}, {api.JSON, "12", 2}, {api.JSON, "0]", 1}, {api.JSON, "null?", 4}, {api.JSON, `"a""b"`, 3}, {api.JSON, "[1, 2]]", 6}, {api.JSON, "{ }{}", 3},
		{api.CBOR, "\x00\x00", 1}, {api.CBOR, "\x18\x01\xff", 2}, {api.CBOR, "\x62abc", 3}, {api.CBOR, "\x82\x01\x80\xff", 3},
		{api.Pack, "\x00\xc1", 1}, {api.Pack, "\xc4\x01ab", 3}, {api.Pack, "\x81\xa1a\x90\xc1", 4},
	} {
		if got := First(k.format, wide, []byte(k.input)); got != k.length {
			t.Errorf("First(%d, %q) = %d, want %d", k.format, k.input, got, k.length)
		}
	}
	if got := given(func() { First(api.JSON, wide, []byte(" 1")) }); got != any(Failure{api.ErrForm, 0}) {
		t.Errorf("white space ahead of the first thing: %v", got)
	}
}
