package padding

import (
	"testing"

	"redact/api"
)

func TestIsFill(t *testing.T) {
	for _, k := range []struct {
		format int
		bytes  string
		want   bool
	}{
		{api.JSON, "", true}, {api.JSON, "   ", true}, {api.JSON, "\x00", false}, {api.JSON, " \n", false}, {api.JSON, "\t ", false},
		{api.CBOR, "", true}, {api.CBOR, "\x00\x00", true}, {api.CBOR, " ", false}, {api.CBOR, "\x00\x01\x00", false},
		{api.Pack, "", true}, {api.Pack, "\x00\x00", true}, {api.Pack, " ", false}, {api.Pack, "\x00\x00\xc0", false},
	} {
		if got := IsFill(k.format, []byte(k.bytes)); got != k.want {
			t.Errorf("IsFill(%d, %q) = %v", k.format, k.bytes, got)
		}
	}
}

func TestFill(t *testing.T) {
	for _, k := range []struct {
		format  int
		text    string
		buckets []int
		want    string
		ok      bool
	}{
		{api.JSON, "123", nil, "123", true}, {api.JSON, "123", []int{}, "123", true}, {api.JSON, "123", []int{3}, "123", true}, {api.JSON, "123", []int{1, 2, 5, 6}, "123  ", true},
		{api.CBOR, "\x01", []int{1, 2}, "\x01", true}, {api.CBOR, "\x41 ", []int{1, 4}, "\x41 \x00\x00", true}, {api.Pack, "\x01", []int{3}, "\x01\x00\x00", true},
		{api.JSON, "123", []int{2}, "", false}, {api.Pack, "123", []int{1, 2}, "", false},
	} {
		if got, ok := Fill(k.format, []byte(k.text), k.buckets); string(got) != k.want || ok != k.ok {
			t.Errorf("Fill(%d, %q, %v) = %q, %v, want %q, %v", k.format, k.text, k.buckets, got, ok, k.want, k.ok)
		}
	}
}
