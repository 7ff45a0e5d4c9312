package redact_test

import (
	"encoding/binary"
	"fmt"
	"hash/fnv"
	"math/rand"
	"strings"
	"testing"

	"redact/api"
	"redact/redact"
)

// part is a document or a thing in one, as these tests see it.
type part struct {
	atom  string   // in CBOR, if it is no container
	keys  []string // of a map; nil for a list
	parts []part
}

// cbor writes a part, its heads longer than they need be.
func (p part) cbor() string {
	if p.atom != "" {
		return p.atom
	}
	head := byte(0x98)
	if p.keys != nil {
		head = 0xb8
	}
	text := string([]byte{head, byte(len(p.parts))})
	for i, inner := range p.parts {
		if p.keys != nil {
			text += string([]byte{0x78, byte(len(p.keys[i]))}) + p.keys[i]
		}
		text += inner.cbor()
	}
	return text
}

func (p part) written(out int) answer {
	return transcode(api.CBOR, out, api.MaxDepth, api.MaxBytes, p.cbor())
}

// step is the one into a part of a part.
func (p part) step(i int) api.Step {
	if p.keys == nil {
		return api.Step{Index: true}
	}
	return api.Step{Key: p.keys[i]}
}

func textPart(text string) part {
	return part{atom: string([]byte{0x60 + byte(len(text))}) + text}
}

func drawnPart(r *rand.Rand, depth int, withBytes bool) part {
	if depth == 0 || r.Intn(2+depth*depth) == 0 {
		return part{atom: string(drawnCBOR(r, 0, withBytes))}
	}
	var p part
	if r.Intn(3) > 0 {
		p.keys = []string{}
	}
	for _, i := range r.Perm(5)[:r.Intn(5)] {
		if p.keys != nil {
			p.keys = append(p.keys, []string{"a", "b", "c", "é", ""}[i])
		}
		p.parts = append(p.parts, drawnPart(r, depth-1, withBytes))
	}
	return p
}

// drawnConfig has a policy that speaks of the keys that drawnPart makes.
func drawnConfig(r *rand.Rand) api.Config {
	c := chain()
	if r.Intn(2) == 0 {
		c.Labels, c.Edges = 4, []api.Edge{{Low: 3, High: 1}, {Low: 3, High: 2}, {Low: 1, High: 0}, {Low: 2, High: 0}}
	}
	c.Default, c.Clearance, c.Key = r.Intn(c.Labels), r.Intn(c.Labels), int(r.Uint64())>>r.Intn(64)
	c.In, c.Out, c.Depth, c.Bytes = formats[r.Intn(3)], formats[r.Intn(3)], api.MaxDepth, api.MaxBytes
	var lines []string
	for range r.Intn(7) {
		var pattern []string
		for range 1 + r.Intn(3) {
			pattern = append(pattern, []string{"*", "*", "**", "[]", "a", "b", "c", "é"}[r.Intn(8)])
		}
		lines = append(lines, fmt.Sprintf("%s %d %s", strings.Join(pattern, "/"), r.Intn(c.Labels), []string{"drop", "mask", "tag"}[r.Intn(3)]))
	}
	// Without this, most documents are secret as a whole.
	if r.Intn(4) > 0 {
		lines = append([]string{fmt.Sprintf(". %d drop", c.Clearance)}, lines...)
		c.Default = c.Clearance
	}
	c.Policy = strings.Join(lines, "\n")
	for at := 0; r.Intn(2) == 0 && at < 6; at++ {
		c.Buckets = append(c.Buckets, 1+50*at+r.Intn(50))
	}
	return c
}

// drawnCase is a configuration and a document in its format.
func drawnCase(r *rand.Rand) (api.Config, string) {
	c := drawnConfig(r)
	return c, drawnPart(r, 3, c.In != api.JSON).written(c.In).text
}

// judged tells the action for what is secret, and 0 for what is shown.
func judged(c api.Config, path []api.Step) (label int, action int) {
	label, action, _ = redact.Label(c, path)
	if shown, _ := redact.Leq(c, label, c.Clearance); shown {
		return label, 0
	}
	return label, action
}

// rewritten is what a part becomes, none or one.
func rewritten(c api.Config, p part, path []api.Step, report *api.Report) []part {
	label, action := judged(c, path)
	switch action {
	case api.Drop:
		report.Dropped++
		return nil
	case api.Mask:
		report.Masked++
		return []part{textPart("***")}
	case api.Tag:
		report.Tagged++
		return []part{textPart(tagged(c.Key, label, p))}
	}
	report.Shown++
	shown := part{atom: p.atom}
	if p.keys != nil {
		shown.keys = []string{}
	}
	for i, inner := range p.parts {
		for _, stays := range rewritten(c, inner, append(path[:len(path):len(path)], p.step(i)), report) {
			shown.parts = append(shown.parts, stays)
			if p.keys != nil {
				shown.keys = append(shown.keys, p.keys[i])
			}
		}
	}
	return []part{shown}
}

func tagged(key int, label int, p part) string {
	h := fnv.New64a()
	h.Write(binary.LittleEndian.AppendUint64(nil, uint64(key)))
	h.Write([]byte{byte(label)})
	h.Write([]byte(p.written(api.CBOR).text))
	return fmt.Sprintf("%016x", h.Sum64())
}

func filled(c api.Config, text string) (string, api.Errno) {
	if len(c.Buckets) == 0 {
		return text, api.OK
	}
	for _, bucket := range c.Buckets {
		if bucket >= len(text) {
			fill := "\x00"
			if c.Out == api.JSON {
				fill = " "
			}
			return text + strings.Repeat(fill, bucket-len(text)), api.OK
		}
	}
	return "", api.ErrLarge
}

// expected is what Close must answer, put together of what the other calls tell.
func expected(c api.Config, p part) outcome {
	var want outcome
	became := part{atom: "\xf6"}
	for _, stays := range rewritten(c, p, nil, &want.report) {
		became = stays
	}
	written := became.written(c.Out)
	if want.errno = written.errno; want.errno == api.OK {
		want.text, want.errno = filled(c, written.text)
	}
	if want.errno != api.OK {
		want.report = api.Report{}
	}
	return want
}

// cutUp cuts an input into pieces anywhere, some of them empty.
func cutUp(r *rand.Rand, input string) []string {
	var pieces []string
	for input != "" {
		cut := r.Intn(len(input) + 1)
		pieces, input = append(pieces, input[:cut]), input[cut:]
	}
	return pieces
}

func TestP10Drawn(t *testing.T) {
	r := rand.New(rand.NewSource(8))
	seen, whole := map[api.Errno]int{}, api.Report{}
	for range 6000 {
		c := drawnConfig(r)
		p := drawnPart(r, 3, c.In != api.JSON)
		input, want := p.written(c.In).text, expected(c, p)
		if got := passed(t, c, cutUp(r, input)...); got != want {
			t.Fatalf("P10: %+v: %q becomes %v, want %v", c, input, got, want)
		}
		seen[want.errno]++
		whole.Shown, whole.Dropped, whole.Masked, whole.Tagged = whole.Shown+want.report.Shown, whole.Dropped+want.report.Dropped, whole.Masked+want.report.Masked, whole.Tagged+want.report.Tagged
	}
	if min(seen[api.OK], seen[api.ErrKind], seen[api.ErrLarge], whole.Shown, whole.Dropped, whole.Masked, whole.Tagged) < 100 {
		t.Errorf("the drawn cases are too much alike: %v, %+v", seen, whole)
	}
}

// stirred puts anything in the place of what is dropped or masked.
func stirred(r *rand.Rand, c api.Config, p part, path []api.Step) part {
	_, action := judged(c, path)
	switch action {
	case api.Drop, api.Mask:
		return drawnPart(r, 3, c.In != api.JSON)
	case api.Tag:
		return p
	}
	other := part{atom: p.atom, keys: p.keys}
	for i, inner := range p.parts {
		other.parts = append(other.parts, stirred(r, c, inner, append(path[:len(path):len(path)], p.step(i))))
	}
	return other
}

func TestP11(t *testing.T) {
	r := rand.New(rand.NewSource(9))
	differ := 0
	for range 6000 {
		c := drawnConfig(r)
		p := drawnPart(r, 3, c.In != api.JSON)
		one, two := p.written(c.In).text, stirred(r, c, p, nil).written(c.In).text
		if one != two {
			differ++
		}
		if a, b := passed(t, c, one), passed(t, c, two); a != b {
			t.Fatalf("P11: %+v: %q becomes %v, %q becomes %v", c, one, a, two, b)
		}
	}
	if differ < 1000 {
		t.Errorf("only %d inputs differ", differ)
	}
}

// TestP11Edges: secrets that differ in all that might show through: their length, their sort, what is in them, and the way in which they are written.
func TestP11Edges(t *testing.T) {
	secrets := []string{"0", "null", "[]", `{}`, `"***"`, `"\u002a**"`, "[1, 2, [3]]", `{"pin": {"ssn": 1}, "x": []}`, " -9223372036854775808 ", `"` + strings.Repeat("x", 100) + `"`}
	for _, clearance := range []int{0, 1} {
		c := chain()
		c.Clearance, c.Buckets = clearance, []int{4, 32, 64}
		c.Policy = "pin 2 drop\nssn 2 mask\n[] 2 drop\n. 0 drop"
		for _, frame := range []string{`{"ssn":%s,"a":1}`, `{"a":1,"pin":%s}`, `{"pin":%s,"ssn":1}`, `[%s,2]`} {
			first := passed(t, c, fmt.Sprintf(frame, secrets[0]))
			for _, secret := range secrets {
				if got := passed(t, c, fmt.Sprintf(frame, secret)); got != first || got.errno != api.OK {
					t.Errorf("P11: %s with %s becomes %v, with 0 %v", frame, secret, got, first)
				}
			}
		}
	}
	// Where bytes are not let out, they leave no trace either.
	c := under("s 1 mask")
	c.In = api.CBOR
	for _, secret := range []string{"\x00", "\x41\xff", "\x81\x40", "\x98\x00"} {
		wantPassed(t, c, "\xa1\x61s"+secret, `{"s":"***"}`, api.Report{Shown: 1, Masked: 1})
	}
}

// TestP12: the same value in other surroundings, formats and ways of writing.
func TestP12(t *testing.T) {
	const policy = "**/s 1 tag\nlog/[] 1 tag\n** 0 drop"
	for _, k := range []struct {
		in     int
		inputs []string
	}{
		{api.JSON, []string{`{"s":{"a":[1,"é"]}}`, ` { "s" : { "\u0061" : [ 1 , "\u00e9" ] } } `, `{"x":[{"s":{"a":[1,"é"]}}]}`, `{"log":[{"a":[1,"é"]}]}`, `{"b":1,"log":[{"a":[1,"é"]}],"c":[null]}`}},
		{api.CBOR, []string{"\xa1\x61s\xa1\x61a\x82\x01\x62é", "\xb8\x01\x79\x00\x01s\xba\x00\x00\x00\x01\x78\x01a\x98\x02\x1b\x00\x00\x00\x00\x00\x00\x00\x01\x78\x02é", "\xa1\x63log\x81\xa1\x61a\x82\x01\x62é"}},
		{api.Pack, []string{"\x81\xa1s\x81\xa1a\x92\x01\xa2é", "\x81\xa1s\xde\x00\x01\xd9\x01a\xdc\x00\x02\xd0\x01\xda\x00\x02é", "\x81\xa3log\x91\x81\xa1a\x92\xcd\x00\x01\xa2é"}},
	} {
		for _, out := range formats {
			for _, input := range k.inputs {
				c := under(policy)
				c.In, c.Out, c.Depth, c.Key = k.in, out, 5, 1234567
				tag := tagged(c.Key, 1, part{atom: "\xa1\x61a\x82\x01\x62é"})
				if got := passed(t, c, input); got.errno != api.OK || got.report.Tagged != 1 || strings.Count(got.text, tag) != 1 {
					t.Errorf("P12: %q becomes %v, without the tag %s", input, got, tag)
				}
			}
		}
	}
	// Two in one document; and what differs in label, key or value has its own.
	wantPassed(t, under("[] 1 tag"), "[5, 5 ,5]", `["69cf9ecc20f4074b","69cf9ecc20f4074b","69cf9ecc20f4074b"]`, api.Report{Shown: 1, Tagged: 3})
	tags := map[string]string{}
	for _, key := range []int{0, 1, -1, 256, smallest, largest} {
		for _, label := range []int{1, 2} {
			for _, value := range []string{"5", "-5", `"5"`, "[5]", `{"5":5}`, "null", "[]", "{}", `""`, "false", "[5,6]", "[6,5]"} {
				c := under(fmt.Sprintf("** %d tag", label))
				c.Key = key
				what, tag := fmt.Sprint(key, label, value), passed(t, c, value).text
				if before, twice := tags[tag]; twice || len(tag) != 18 {
					t.Errorf("P12: the tag of %s is %s, as that of %q", what, tag, before)
				}
				tags[tag] = what
			}
		}
	}
}

// inPieces cuts an input into pieces of one length.
func inPieces(input string, length int) []string {
	var pieces []string
	for ; len(input) > length; input = input[length:] {
		pieces = append(pieces, input[:length])
	}
	return append(pieces, input)
}

// wantSameInPieces also holds every Feed against what Transcode tells of all that was fed so far.
func wantSameInPieces(t *testing.T, c api.Config, pieces []string, want outcome) {
	t.Helper()
	g, fed := open(t, c), ""
	failed := api.OK
	for _, piece := range pieces {
		fed += piece
		so := transcode(c.In, api.CBOR, c.Depth, c.Bytes, fed)
		if so.place == len(fed) {
			so.errno = api.OK
		}
		got := g.Feed([]byte(piece))
		if got != so.errno || failed != api.OK && got != failed {
			t.Fatalf("P13: %q: Feed = %d at %q, want %d", pieces, got, fed, so.errno)
		}
		failed = got
	}
	got := closed(t, g)
	if got != want || failed != api.OK && got.errno != failed {
		t.Fatalf("P13: %q become %v, whole %v", pieces, got, want)
	}
}

func TestP13(t *testing.T) {
	for _, in := range formats {
		for _, out := range formats {
			c := chain()
			c.In, c.Out, c.Bytes = in, out, 90
			came := transcode(api.JSON, in, 4, 200, example).text
			for _, input := range []string{came, came + " ", came[:len(came)-1], came[:20] + "\xff" + came[20:], came + strings.Repeat(" ", 20), strings.Repeat(came[:1], 6), "", "[1,2.5,[[[["} {
				want := passed(t, c, input)
				for length := 1; length <= len(input)+1; length++ {
					wantSameInPieces(t, c, inPieces(input, length), want)
					wantSameInPieces(t, c, []string{"", input[:length-1], "", input[length-1:], ""}, want)
				}
			}
		}
	}
}

func TestP13Drawn(t *testing.T) {
	r := rand.New(rand.NewSource(10))
	for range 3000 {
		c, input := drawnCase(r)
		c.Depth, c.Bytes = 1+r.Intn(4), []int{1 + r.Intn(60), api.MaxBytes}[r.Intn(2)]
		if r.Intn(2) == 0 {
			input = drawn(r, c.In)
		}
		wantSameInPieces(t, c, cutUp(r, input), passed(t, c, input))
	}
}

func TestP15(t *testing.T) {
	r := rand.New(rand.NewSource(11))
	for range 6000 {
		c, input := drawnCase(r)
		if got, again := passed(t, c, input), unfilled(c); got.errno == api.OK {
			b, e := redact.Unpad(c.Out, []byte(got.text))
			if want := passed(t, again, input); string(b) != want.text || e != api.OK || got.report != want.report {
				t.Fatalf("P15: %+v: %q becomes %v, of which Unpad gives %q, %d, and without buckets %v", c, input, got, b, e, want)
			}
		}
		// The label 0 of the four is above all others, and the label 2 of the three.
		c.Clearance = []int{2, 0}[c.Labels-3]
		want := transcode(c.In, c.Out, c.Depth, c.Bytes, input)
		text, errno := want.text, want.errno
		if errno == api.OK {
			text, errno = filled(c, text)
		}
		if got := passed(t, c, input); got.text != text || got.errno != errno || got.report != (api.Report{Shown: got.report.Shown}) {
			t.Fatalf("P15: %+v: %q becomes %v, want %.90q, %d", c, input, got, text, errno)
		}
	}
}

func unfilled(c api.Config) api.Config {
	c.Buckets = nil
	return c
}

// TestP15Edges: documents whose ends are hard to tell from what they are filled up with, and the greatest bucket.
func TestP15Edges(t *testing.T) {
	for _, out := range formats {
		for _, input := range []string{"0", "12", "[0]", `""`, `" "`, `"a "`, `"\u0000"`, `{"":0}`, `[[[[]]]]`, "null", "256", "-1"} {
			for _, bucket := range []int{12, 13, api.MaxBucket} {
				c := under("")
				c.Out, c.Buckets = out, []int{bucket}
				got, want := passed(t, c, input), transcode(api.JSON, out, 4, 200, input)
				b, e := redact.Unpad(out, []byte(got.text))
				if string(b) != want.text || e != api.OK || len(got.text) != bucket {
					t.Errorf("P15: %q in %d filled up to %d: %v, of which Unpad gives %q, %d", input, out, bucket, got, b, e)
				}
			}
		}
	}
}
