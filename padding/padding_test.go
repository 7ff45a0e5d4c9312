package padding

import (
	"testing"

	"redact/api"
)

func TestIsFill(t *testing.T) {
	for _, k := range []struct {
		format int
		bytes  string
		want   bool
	}{
		{api.JSON, "", true}, {api.JSON, "   ", true}, {api.JSON, "\x00", false}, {api.JSON, " \n", false}, {api.JSON, "\t ", false},
		{api.CBOR, "", true}, {api.CBOR, "\x00\x00", true}, {api.CBOR, " ", false}, {api.CBOR, "\x00\x01\x00", false},
		{api.Pack, "", true}, {api.Pack, "\x00\x00", true}, {api.Pack, " ", false}, {api.Pack, "\x00\x00\xc0", false},
	} {
		if got := IsFill(k.format, []byte(k.bytes)); got != k.want {
			t.Errorf("IsFill(%d, %q) = %v", k.format, k.bytes, got)
		}
	}
}
