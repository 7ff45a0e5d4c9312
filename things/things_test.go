package things

import "testing"

func TestHasBytes(t *testing.T) {
	for _, k := range []struct {
		thing Thing
		want  bool
	}{
		{Nothing{}, false}, {Truth(true), false}, {Number(1), false}, {Text("bytes"), false}, {List{}, false}, {Map{}, false},
		{Bytes{}, true}, {Bytes{1}, true}, {Bytes(nil), true},
		{List{Text(""), List{Number(1)}, Map{{Key: "a", Thing: Nothing{}}}}, false},
		{List{Text(""), Bytes{}, Text("")}, true},
		{Map{{Key: "a", Thing: Number(1)}, {Key: "b", Thing: List{List{}, List{Bytes{}}}}, {Key: "c", Thing: Map{}}}, true},
	} {
		if got := HasBytes(k.thing); got != k.want {
			t.Errorf("HasBytes(%#v) = %v", k.thing, got)
		}
	}
}
