package rewriting

import (
	"reflect"
	"testing"

	"redact/api"
	"redact/automaton"
	"redact/labels"
	"redact/policy"
	"redact/things"
)

// receiver has the clearance 0 of two labels.
func receiver(t *testing.T, text string, fallback int) Receiver {
	t.Helper()
	order, ok := labels.New(2, []api.Edge{{Low: 0, High: 1}})
	rules, errno, line := policy.Read(text, 2)
	if !ok || errno != api.OK {
		t.Fatalf("%q: %d, %d", text, errno, line)
	}
	return Receiver{Order: order, Rules: automaton.Compile(rules, fallback)}
}

func TestDocument(t *testing.T) {
	document := things.Map{
		{Key: "a", Thing: things.List{things.Number(5), things.Bytes("x"), things.List(nil)}},
		{Key: "b", Thing: things.Nothing{}},
		{Key: "c", Thing: things.Map{{Key: "a", Thing: things.Truth(true)}}},
	}
	const tag = things.Text("69cf9ecc20f4074b") // of 5
	for _, k := range []struct {
		policy   string
		fallback int
		want     things.Thing
		report   api.Report
	}{
		{"", 0, document, api.Report{Shown: 8}},
		{"", 1, things.Nothing{}, api.Report{Dropped: 1}},
		{". 1 mask\n** 0 drop", 0, things.Text("***"), api.Report{Masked: 1}},
		{". 0 drop", 1, things.Map(nil), api.Report{Shown: 1, Dropped: 3}},
		{". 0 drop\n* 1 mask", 1, things.Map{{Key: "a", Thing: mask}, {Key: "b", Thing: mask}, {Key: "c", Thing: mask}}, api.Report{Shown: 1, Masked: 3}},
		{"a 1 drop", 0, document[1:], api.Report{Shown: 4, Dropped: 1}},
		{"c 1 drop\nc/a 0 drop", 0, document[:2], api.Report{Shown: 6, Dropped: 1}},
		{"*/a 1 drop\n*/[] 1 tag\nb 1 drop\n** 0 drop", 1, things.Map{
			{Key: "a", Thing: things.List{tag, tagOf(0, 1, things.Bytes("x")), tagOf(0, 1, things.List(nil))}},
			{Key: "c", Thing: things.Map(nil)},
		}, api.Report{Shown: 3, Dropped: 2, Tagged: 3}},
	} {
		got, report := Document(receiver(t, k.policy, k.fallback), document)
		if !reflect.DeepEqual(got, k.want) || report != k.report {
			t.Errorf("%q: %#v, %+v, want %#v, %+v", k.policy, got, report, k.want, k.report)
		}
	}
}

// TestDocumentStaysAsItIs: what is rewritten is another document.
func TestDocumentStaysAsItIs(t *testing.T) {
	document := things.List{things.Map{{Key: "s", Thing: things.Number(1)}, {Key: "a", Thing: things.Number(2)}}, things.Number(3)}
	Document(receiver(t, "*/s 1 drop", 0), document)
	want := things.List{things.Map{{Key: "s", Thing: things.Number(1)}, {Key: "a", Thing: things.Number(2)}}, things.Number(3)}
	if !reflect.DeepEqual(document, want) {
		t.Errorf("the document is %#v", document)
	}
}

func TestTagOf(t *testing.T) {
	for _, k := range []struct {
		key, label int
		thing      things.Thing
		want       things.Text
	}{
		{0, 1, things.Number(5), "69cf9ecc20f4074b"},
		{-1, 1, things.Number(5), "dfdf3fb788760083"},
		{7, 2, things.Map{{Key: "a", Thing: things.List{things.Number(1), things.Number(-25)}}}, "8336d8f97946751c"},
	} {
		if got := tagOf(k.key, k.label, k.thing); got != k.want {
			t.Errorf("tagOf(%d, %d, %v) = %s, want %s", k.key, k.label, k.thing, got, k.want)
		}
	}
}

func TestDigits(t *testing.T) {
	for s, want := range map[sum]string{0: "0000000000000000", 0xab: "00000000000000ab", 1<<60 - 1: "0fffffffffffffff", 1 << 60: "1000000000000000", 1<<64 - 1: "ffffffffffffffff"} {
		if got := s.digits(); got != want {
			t.Errorf("%d: %s, want %s", s, got, want)
		}
	}
}
