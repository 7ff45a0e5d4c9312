package redact_test

import (
	"fmt"
	"math/rand"
	"slices"
	"strings"
	"testing"

	"redact/api"
	"redact/redact"
)

// example is the document's, with what it becomes for the clearances 0 and 1.
const (
	example     = `{"user": {"ssn": 12, "name": "\u00e9\n"}, "pin": [1, 2], "log": [{"x": 5, "pin": 6}]}`
	exampleFor0 = `{"user":{"ssn":"***","name":"é\u000a"},"log":[{"x":"69cf9ecc20f4074b"}]}`
	exampleFor1 = `{"user":{"ssn":"***","name":"é\u000a"},"pin":[1,2],"log":[{"x":5,"pin":6}]}`
)

// outcome is what Close answers.
type outcome struct {
	text   string
	report api.Report
	errno  api.Errno
	place  int
}

func (o outcome) String() string {
	return fmt.Sprintf("%.90q, %+v, %d, %d", o.text, o.report, o.errno, o.place)
}

func open(t *testing.T, c api.Config) *redact.Gate {
	t.Helper()
	g, errno := redact.Open(c)
	if g == nil || errno != api.OK {
		t.Fatalf("P8: Open(%+v) = %p, %d", c, g, errno)
	}
	return g
}

func closed(t *testing.T, g *redact.Gate) outcome {
	t.Helper()
	b, report, errno, place := g.Close()
	if errno != api.OK && (b != nil || report != api.Report{}) {
		t.Errorf("P1: Close() = %.60q, %+v beside the error %d", b, report, errno)
	}
	return outcome{string(b), report, errno, place}
}

// passed feeds a gate the pieces of an input, and closes it.
func passed(t *testing.T, c api.Config, pieces ...string) outcome {
	t.Helper()
	g := open(t, c)
	for _, piece := range pieces {
		g.Feed([]byte(piece))
	}
	return closed(t, g)
}

func wantFeed(t *testing.T, g *redact.Gate, piece string, errno api.Errno) {
	t.Helper()
	if got := g.Feed([]byte(piece)); got != errno {
		t.Errorf("P9: Feed(%.60q) = %d, want %d", piece, got, errno)
	}
}

func wantClose(t *testing.T, g *redact.Gate, want outcome) {
	t.Helper()
	if got := closed(t, g); got != want {
		t.Errorf("P10: Close() = %v, want %v", got, want)
	}
}

func wantPassed(t *testing.T, c api.Config, input string, text string, report api.Report) {
	t.Helper()
	want := outcome{text: text, report: report}
	if got := passed(t, c, input); got != want {
		t.Errorf("P10: %.60q for %d, from %d to %d: %.90q becomes %v, want %v", c.Policy, c.Clearance, c.In, c.Out, input, got, want)
	}
}

func wantRefused(t *testing.T, c api.Config, input string, errno api.Errno, place int) {
	t.Helper()
	want := outcome{errno: errno, place: place}
	if got := passed(t, c, input); got != want {
		t.Errorf("P10: %.60q for %d, from %d to %d: %.90q becomes %v, want %v", c.Policy, c.Clearance, c.In, c.Out, input, got, want)
	}
}

// under is a configuration with another policy, for the clearance 0.
func under(policy string) api.Config {
	c := chain()
	c.Policy = policy
	return c
}

func TestP8(t *testing.T) {
	// A gate that has read nothing: nothing is an input that ends too early.
	wantClose(t, open(t, chain()), outcome{errno: api.ErrForm})
	for errno, spoil := range map[api.Errno]func(c *api.Config){
		api.ErrLabels:  func(c *api.Config) { c.Clearance, c.Depth, c.Policy = 3, 0, "?" },
		api.ErrOrder:   func(c *api.Config) { c.Edges, c.Depth = append(c.Edges, api.Edge{Low: 2, High: 0}), 0 },
		api.ErrLattice: func(c *api.Config) { c.Edges, c.Buckets = nil, []int{0} },
		api.ErrLimits:  func(c *api.Config) { c.In, c.Buckets, c.Policy = 4, []int{0}, "?" },
		api.ErrBuckets: func(c *api.Config) { c.Buckets, c.Policy = []int{4, 4}, "?" },
		api.ErrPolicy:  func(c *api.Config) { c.Policy = ". 0 drop\n?" },
	} {
		c := chain()
		spoil(&c)
		if g, e := redact.Open(c); g != nil || e != errno {
			t.Errorf("P8: Open = %v, %d, want nil, %d", g, e, errno)
		}
	}
}

func TestP8TellsWhatCheckTells(t *testing.T) {
	r := rand.New(rand.NewSource(5))
	for range 20000 {
		c := wild(r)
		errno, _ := redact.Check(c)
		if g, e := redact.Open(c); e != errno || (g == nil) != (errno != api.OK) {
			t.Fatalf("P8: %+v: Check = %d, Open = %p, %d", c, errno, g, e)
		}
	}
}

func TestP9(t *testing.T) {
	g := open(t, chain())
	wantFeed(t, g, "[1,2", api.OK)
	wantFeed(t, g, ".5]", api.ErrNumber)
	wantFeed(t, g, "", api.ErrNumber)
	wantFeed(t, g, "]", api.ErrNumber)
	wantFeed(t, g, "[[[[[[", api.ErrNumber)
	wantClose(t, g, outcome{errno: api.ErrNumber, place: 4})
	g = open(t, chain())
	for _, piece := range []string{"", " ", "", "-", "1", "2", "", "\n\t"} {
		wantFeed(t, g, piece, api.OK)
	}
	wantFeed(t, g, "3", api.ErrForm)
	wantFeed(t, g, " ", api.ErrForm)
	wantClose(t, g, outcome{errno: api.ErrForm, place: 6})
	if e := open(t, chain()).Feed(nil); e != api.OK {
		t.Errorf("P9: Feed(nil) = %d", e)
	}
}

// TestP9Halves: bytes that end within a character, an escape, a word, a head, a number or an argument are right so far.
func TestP9Halves(t *testing.T) {
	for _, k := range []struct {
		in     int
		pieces []string
		want   string
	}{
		{api.JSON, []string{"12", "34"}, "1234"}, {api.JSON, []string{"-", "0"}, "0"}, {api.JSON, []string{"nu", "ll"}, "null"},
		{api.JSON, []string{"\"\xe2", "\x82", "\xac\""}, `"€"`}, {api.JSON, []string{`"\`, "u", "d83", `d\`, `ude0`, `0"`}, `"😀"`},
		{api.JSON, []string{"{", `"`, "a", `"`, " ", ":", "[", "]", " }", "\n"}, `{"a":[]}`},
		{api.CBOR, []string{"\x19", "\x01", "\x00"}, "256"}, {api.CBOR, []string{"\x82", "\x62\xc3", "\xa9\x80"}, `["é",[]]`}, {api.CBOR, []string{"\xa1\x78", "\x01", "a", "\xf5"}, `{"a":true}`},
		{api.Pack, []string{"\xd1\xff", "\xff"}, "-1"}, {api.Pack, []string{"\xdc", "\x00", "\x01", "\xc2"}, "[false]"}, {api.Pack, []string{"\xd9", "\x02\xc3", "\xa9"}, `"é"`},
	} {
		c := under("** 0 drop")
		c.In = k.in
		g := open(t, c)
		for _, piece := range k.pieces {
			wantFeed(t, g, piece, api.OK)
		}
		if got := closed(t, g); got.text != k.want || got.errno != api.OK {
			t.Errorf("P9: %q is read as %v, want %q", k.pieces, got, k.want)
		}
	}
}

// TestP9Errors feeds each input whole, and byte by byte: the error comes with the byte at its place, and stays.
func TestP9Errors(t *testing.T) {
	for in, list := range map[int][]wrong{
		api.JSON: {
			{"[1,2.5]", api.ErrNumber, 4}, {"[1,02]", api.ErrForm, 4}, {"9223372036854775808", api.ErrNumber, 18}, {`{"a":1,"a"`, api.ErrTwice, 9}, {"[[[[[", api.ErrDepth, 4}, {`"\ud800x"`, api.ErrForm, 7}, {"\"\xe2(", api.ErrForm, 2},
			{"x", api.ErrForm, 0}, {"1 2", api.ErrForm, 2}, {"[]]", api.ErrForm, 2}, {strings.Repeat(" ", 200) + "1", api.ErrSize, 200}, {"1" + strings.Repeat("\n", 300), api.ErrSize, 200}, {`{"a":{"b":[[{"c":1}]]}}`, api.ErrDepth, 12},
		},
		api.CBOR: {
			{"\x81\xff", api.ErrForm, 1}, {"\xa1\x01\x01", api.ErrForm, 1}, {"\x1b\x80\x00\x00\x00\x00\x00\x00\x00", api.ErrNumber, 8}, {"\x62\xc3(", api.ErrForm, 2}, {"\x61\xc3", api.ErrForm, 1}, {"\xa2\x61a\x01\x61a\x02", api.ErrTwice, 5}, {"\x81\x81\x81\x81\xa0", api.ErrDepth, 4}, {"\x01\x00", api.ErrForm, 1},
			{"\x58\xff" + strings.Repeat("x", 199), api.ErrSize, 200},
		},
		api.Pack: {
			{"\xc1", api.ErrForm, 0}, {"\x81\xc4\x00", api.ErrForm, 1}, {"\xcf\xff\xff\xff\xff\xff\xff\xff\xff", api.ErrNumber, 8}, {"\xa2\xc3(", api.ErrForm, 2}, {"\x82\xa0\x01\xa0", api.ErrTwice, 3}, {"\x91\x91\x91\x91\xdf", api.ErrDepth, 4}, {"\xc0\x00", api.ErrForm, 1},
			{"\xd9\xff" + strings.Repeat("x", 250), api.ErrSize, 200},
		},
	} {
		c := chain()
		c.In = in
		for _, w := range list {
			whole, bytewise := open(t, c), open(t, c)
			wantFeed(t, whole, w.text, w.errno)
			for i := range len(w.text) {
				want := api.OK
				if i >= w.place {
					want = w.errno
				}
				wantFeed(t, bytewise, w.text[i:i+1], want)
			}
			for _, g := range []*redact.Gate{whole, bytewise} {
				wantFeed(t, g, "", w.errno)
				wantFeed(t, g, "]}\x00", w.errno)
				wantClose(t, g, outcome{errno: w.errno, place: w.place})
				wantFeed(t, g, "", api.ErrClosed)
				wantClose(t, g, outcome{errno: api.ErrClosed})
			}
		}
	}
}

// TestP9Size: one byte too many is an error even behind the document, and as many as may be are none.
func TestP9Size(t *testing.T) {
	for _, limit := range []int{1, 2, 3, api.MaxBytes} {
		c := under("")
		c.Bytes = limit
		g := open(t, c)
		wantFeed(t, g, "1"+strings.Repeat(" ", limit-1), api.OK)
		wantClose(t, g, outcome{text: "1", report: api.Report{Shown: 1}})
		g = open(t, c)
		wantFeed(t, g, strings.Repeat(" ", limit), api.OK)
		wantFeed(t, g, "", api.OK)
		wantFeed(t, g, " ", api.ErrSize)
		for range 3 {
			wantFeed(t, g, strings.Repeat(" ", 1<<20), api.ErrSize)
		}
		wantClose(t, g, outcome{errno: api.ErrSize, place: limit})
		wantRefused(t, c, strings.Repeat(" ", 1<<20), api.ErrSize, limit)
		wantRefused(t, c, strings.Repeat(" ", limit-1)+strings.Repeat("x", 1<<20), api.ErrForm, limit-1)
	}
}

func TestP9Closed(t *testing.T) {
	for _, input := range []string{"", "[1", "1", "x", `{"b":1}`} {
		c := chain()
		c.Buckets = []int{3}
		g := open(t, c)
		g.Feed([]byte(input))
		g.Close()
		for _, piece := range []string{"", "1", "x", strings.Repeat(" ", 300)} {
			wantFeed(t, g, piece, api.ErrClosed)
			wantClose(t, g, outcome{errno: api.ErrClosed})
		}
	}
}

func TestP10Example(t *testing.T) {
	c := chain()
	wantPassed(t, c, example, exampleFor0, api.Report{Shown: 5, Dropped: 2, Masked: 1, Tagged: 1})
	c.Clearance = 1
	wantPassed(t, c, example, exampleFor1, api.Report{Shown: 10, Masked: 1})
	c.Buckets = []int{64, 128}
	wantPassed(t, c, example, exampleFor1+strings.Repeat(" ", 128-len(exampleFor1)), api.Report{Shown: 10, Masked: 1})
	for _, w := range []wrong{
		{"[1,2.5]", api.ErrNumber, 4}, {"[1,02]", api.ErrForm, 4}, {"9223372036854775808", api.ErrNumber, 18}, {`{"a":1,"a"`, api.ErrTwice, 9}, {"[[[[[", api.ErrDepth, 4}, {`"\ud800x"`, api.ErrForm, 7},
		{"[1", api.ErrForm, 2}, {"nul", api.ErrForm, 3}, {"\"\xe2(", api.ErrForm, 2}, {"", api.ErrForm, 0}, {"   ", api.ErrForm, 3},
	} {
		wantRefused(t, c, w.text, w.errno, w.place)
	}
}

// TestP10Formats: the document's example, from each format to each.
func TestP10Formats(t *testing.T) {
	for _, in := range formats {
		for _, out := range formats {
			c := chain()
			c.In, c.Out = in, out
			came := transcode(api.JSON, in, 4, 200, example).text
			for clearance, want := range map[int]struct {
				text   string
				report api.Report
			}{
				0: {exampleFor0, api.Report{Shown: 5, Dropped: 2, Masked: 1, Tagged: 1}},
				1: {exampleFor1, api.Report{Shown: 10, Masked: 1}},
				2: {example, api.Report{Shown: 11}},
			} {
				c.Clearance = clearance
				wantPassed(t, c, came, transcode(api.JSON, out, 4, 200, want.text).text, want.report)
			}
		}
	}
}

// TestP10TheDocumentItself: one that is left out is nothing; and nothing within a secret thing is looked at.
func TestP10TheDocumentItself(t *testing.T) {
	for _, input := range []string{"1", "null", " [1, [2]] ", `{"a":{"a":1}}`, `"***"`} {
		wantPassed(t, under(". 1 drop\n** 0 drop"), input, "null", api.Report{Dropped: 1})
		wantPassed(t, under(". 1 mask\n** 0 drop"), input, `"***"`, api.Report{Masked: 1})
	}
	wantPassed(t, under(". 1 tag\n** 0 drop"), " 5 ", `"69cf9ecc20f4074b"`, api.Report{Tagged: 1})
	for out, want := range map[int][2]string{api.JSON: {"null", `"***"`}, api.CBOR: {"\xf6", "\x63***"}, api.Pack: {"\xc0", "\xa3***"}} {
		c := under("")
		c.Default, c.Out = 2, out
		wantPassed(t, c, "[1,2]", want[0], api.Report{Dropped: 1})
		c.Policy = "** 1 mask"
		wantPassed(t, c, "[1,2]", want[1], api.Report{Masked: 1})
	}
}

func TestP10Actions(t *testing.T) {
	for _, k := range []struct {
		policy, input, want string
		report              api.Report
	}{
		// everything shown, and nothing but the containers
		{"", `{"a":[1,{"b":null}],"c":""}`, `{"a":[1,{"b":null}],"c":""}`, api.Report{Shown: 6}},
		{"** 0 tag", `[[],{},0,true,false]`, `[[],{},0,true,false]`, api.Report{Shown: 6}},
		{"* 1 drop", `{"a":1,"b":[2],"":{}}`, `{}`, api.Report{Shown: 1, Dropped: 3}},
		{"* 1 drop", `[1,[2],{"c":3}]`, `[]`, api.Report{Shown: 1, Dropped: 3}},
		{"* 1 mask", `[1,[2,3,4],{"c":3}]`, `["***","***","***"]`, api.Report{Shown: 1, Masked: 3}},
		{"*/* 1 drop", `[[1,2],{"a":[3]},4]`, `[[],{},4]`, api.Report{Shown: 4, Dropped: 3}},
		// entries and things stay in their order
		{"b 2 drop", `{"c":1,"b":2,"a":3}`, `{"c":1,"a":3}`, api.Report{Shown: 3, Dropped: 1}},
		{"b 2 mask", `{"c":1,"b":2,"a":3}`, `{"c":1,"b":"***","a":3}`, api.Report{Shown: 3, Masked: 1}},
		{"[]/s 1 drop", `[{"s":1},2,{"t":3,"s":[]}]`, `[{},2,{"t":3}]`, api.Report{Shown: 5, Dropped: 2}},
		// what is within a secret thing is secret with it, whatever its own rule says
		{"a 1 drop\na/b 0 drop", `{"a":{"b":1}}`, `{}`, api.Report{Shown: 1, Dropped: 1}},
		{"a 1 mask\na/b 2 tag", `{"a":{"b":1}}`, `{"a":"***"}`, api.Report{Shown: 1, Masked: 1}},
		// what is not secret itself is shown with its secret things out of it
		{"**/b 2 drop\n** 0 mask", `{"a":{"b":1,"a":{"b":2}},"b":{"a":1}}`, `{"a":{"a":{}}}`, api.Report{Shown: 3, Dropped: 3}},
		// what looks like a mask or a tag is a text like any other
		{"a 1 mask", `{"a":"x","b":"***"}`, `{"a":"***","b":"***"}`, api.Report{Shown: 2, Masked: 1}},
		// keys are not looked at through the escapes with which they came
		{"é 1 drop", `{"\u00e9":1,"e":2}`, `{"e":2}`, api.Report{Shown: 2, Dropped: 1}},
		{"[] 1 drop", `{"[]":1,"a":[2]}`, `{"[]":1,"a":[2]}`, api.Report{Shown: 4}},
	} {
		wantPassed(t, under(k.policy), k.input, k.want, k.report)
	}
}

// TestP10Order: it counts what is at most the clearance, not which number is less.
func TestP10Order(t *testing.T) {
	c := api.Config{
		Labels: 4, Edges: []api.Edge{{Low: 3, High: 1}, {Low: 3, High: 2}, {Low: 1, High: 0}, {Low: 2, High: 0}}, Default: 3,
		Policy: "a 0 drop\nb 1 mask\nc 2 drop\nd 3 drop", In: api.JSON, Out: api.JSON, Depth: 1, Bytes: 99,
	}
	for clearance, k := range map[int]outcome{
		0: {text: `{"a":1,"b":2,"c":3,"d":4}`, report: api.Report{Shown: 5}},
		1: {text: `{"b":2,"d":4}`, report: api.Report{Shown: 3, Dropped: 2}},
		2: {text: `{"b":"***","c":3,"d":4}`, report: api.Report{Shown: 3, Dropped: 1, Masked: 1}},
		3: {text: `{"b":"***","d":4}`, report: api.Report{Shown: 2, Dropped: 2, Masked: 1}},
	} {
		c.Clearance = clearance
		wantPassed(t, c, `{"a":1,"b":2,"c":3,"d":4}`, k.text, k.report)
	}
}

func TestP10Tags(t *testing.T) {
	for _, k := range []struct {
		key, label int
		input, tag string
	}{{0, 1, "5", "69cf9ecc20f4074b"}, {-1, 1, "5", "dfdf3fb788760083"}, {7, 2, `{"a":[1,-25]}`, "8336d8f97946751c"}} {
		for _, out := range formats {
			c := under(fmt.Sprintf(". %d tag", k.label))
			c.Key, c.Out = k.key, out
			want := transcode(api.JSON, out, 1, 99, `"`+k.tag+`"`).text
			wantPassed(t, c, k.input, want, api.Report{Tagged: 1})
		}
	}
}

// TestP10Kind: bytes that are secret are none in what the document becomes.
func TestP10Kind(t *testing.T) {
	for in, k := range map[int][3]string{ // bytes in an entry s, in a list in it, and the bytes alone
		api.CBOR: {"\xa1\x61s\x41\xff", "\xa1\x61s\x81\x40", "\x41\x00"},
		api.Pack: {"\x81\xa1s\xc4\x01\xff", "\x81\xa1s\x91\xc4\x00", "\xc4\x01\x00"},
	} {
		for i, input := range k {
			c := under("")
			c.In = in
			wantRefused(t, c, input, api.ErrKind, 0)
			// It counts ahead of ErrLarge.
			c.Buckets = []int{1}
			wantRefused(t, c, input, api.ErrKind, 0)
			c.Buckets = nil
			for _, out := range []int{api.CBOR, api.Pack} {
				c.Out = out
				got, want := passed(t, c, input), transcode(in, out, 4, 200, input)
				if got.text != want.text || got.errno != api.OK {
					t.Errorf("P10: %x becomes %v, want %v", input, got, want)
				}
			}
			c.Out = api.JSON
			if i < 2 {
				c.Policy = "s 1 drop"
				wantPassed(t, c, input, "{}", api.Report{Shown: 1, Dropped: 1})
				c.Policy = "s 1 mask"
				wantPassed(t, c, input, `{"s":"***"}`, api.Report{Shown: 1, Masked: 1})
				c.Policy = "s 1 tag"
			} else {
				c.Policy = ". 1 tag"
			}
			if got := passed(t, c, input); got.errno != api.OK || got.report.Tagged != 1 {
				t.Errorf("P10: a tag of bytes: %x becomes %v", input, got)
			}
		}
	}
	// An error of reading counts ahead of ErrKind.
	c := under("")
	c.In = api.CBOR
	wantRefused(t, c, "\x82\x41a", api.ErrForm, 3)
	wantRefused(t, c, "\x41a\x00", api.ErrForm, 2)
}

// TestP10Buckets: just large enough, just too small, and the least of several.
func TestP10Buckets(t *testing.T) {
	for out, k := range map[int]struct{ text, fill string }{api.JSON: {"[1,2]", " "}, api.CBOR: {"\x82\x01\x02", "\x00"}, api.Pack: {"\x92\x01\x02", "\x00"}} {
		length := len(k.text)
		for _, b := range []struct {
			buckets []int
			filled  int // 0 if none is large enough
		}{
			{nil, length}, {[]int{}, length}, {[]int{length}, length}, {[]int{length + 1}, length + 1}, {[]int{length - 1}, 0}, {[]int{1, 2}, 0}, {[]int{1, 2, length}, length}, {[]int{length - 1, length + 1}, length + 1},
			{[]int{1, length, 64}, length}, {[]int{1, 2, 64, 128}, 64}, {[]int{1, api.MaxBucket}, api.MaxBucket}, {[]int{10, 11, 12, 13, 14, 15, 16, 17}, 10},
		} {
			c := under("")
			c.Out, c.Buckets = out, b.buckets
			if b.filled == 0 {
				wantRefused(t, c, "[1,2]", api.ErrLarge, 0)
			} else {
				wantPassed(t, c, "[1,2]", k.text+strings.Repeat(k.fill, b.filled-length), api.Report{Shown: 3})
			}
		}
	}
	// An error of reading counts ahead of ErrLarge, and what is left out needs no room.
	c := chain()
	c.Buckets = []int{2}
	wantRefused(t, c, "[1,2", api.ErrForm, 4)
	wantPassed(t, c, `{"pin":[1,2,3]}`, "{}", api.Report{Shown: 1, Dropped: 1})
}

// TestP10ErrorsWithinSecrets: a secret thing is read like any other, and its errors are told.
func TestP10ErrorsWithinSecrets(t *testing.T) {
	for _, action := range []string{"drop", "mask", "tag"} {
		for _, c := range []api.Config{under("s 2 " + action), under("** 2 " + action)} {
			for _, w := range []wrong{
				{`{"s":2.5}`, api.ErrNumber, 6}, {`{"s":{"a":1,"a":2}}`, api.ErrTwice, 14}, {`{"s":[[[[]]]]}`, api.ErrDepth, 8}, {`{"s":nil}`, api.ErrForm, 6}, {`{"s":"`, api.ErrForm, 6}, {`{"s":1,"s":2}`, api.ErrTwice, 9}, {`{"s":"` + strings.Repeat("x", 300), api.ErrSize, 200},
			} {
				wantRefused(t, c, w.text, w.errno, w.place)
			}
		}
	}
}

// TestP1Gate: whatever is opened and fed, nothing panics, and errors have zeros beside them.
func TestP1Gate(t *testing.T) {
	r := rand.New(rand.NewSource(6))
	for range 20000 {
		c := wild(r)
		g, errno := redact.Open(c)
		if errno != api.OK {
			continue
		}
		for range r.Intn(4) {
			g.Feed([]byte(drawn(r, c.In)))
		}
		got := closed(t, g)
		readError := got.errno >= api.ErrSize && got.errno <= api.ErrTwice
		if !readError && got.errno != api.OK && got.errno != api.ErrKind && got.errno != api.ErrLarge || got.place != 0 && !readError {
			t.Fatalf("P10: %+v: Close() = %v", c, got)
		}
	}
}

// TestP1ManyThings: as much as can come in, with as much as can come of it.
func TestP1ManyThings(t *testing.T) {
	c := under("* 1 tag")
	c.Bytes = api.MaxBytes
	count := (api.MaxBytes - 1) / 2
	got := passed(t, c, "["+strings.Repeat("7,", count-1)+"7]")
	if got.errno != api.OK || got.report != (api.Report{Shown: 1, Tagged: count}) || len(got.text) != 1+19*count {
		t.Errorf("P10: %d things become %v", count, got)
	}
	c.Buckets = []int{1 + 19*count - 1}
	wantRefused(t, c, "["+strings.Repeat("7,", count-1)+"7]", api.ErrLarge, 0)
}

// TestP2Gate writes into what was handed in and into what came out.
func TestP2Gate(t *testing.T) {
	c := chain()
	c.Buckets = []int{99, 101}[:1]
	g, other := open(t, c), open(t, c)
	c.Edges[0], c.Edges[1], c.Buckets[0] = api.Edge{Low: 2, High: 1}, api.Edge{Low: 1, High: 0}, 1
	room := []byte(example + "behind")
	for i := 0; i < len(example); i += 7 {
		piece := room[i:min(i+7, len(example))]
		for _, gate := range []*redact.Gate{g, other} {
			if e := gate.Feed(piece); e != api.OK {
				t.Fatalf("P9: Feed = %d", e)
			}
		}
		if want := example + "behind"; string(room[i:]) != want[i:] {
			t.Fatalf("P2: Feed wrote into %q", room)
		}
		for j := range piece {
			piece[j] = '#'
		}
	}
	want := exampleFor0 + strings.Repeat(" ", 99-len(exampleFor0))
	report := api.Report{Shown: 5, Dropped: 2, Masked: 1, Tagged: 1}
	b, q, e, p := g.Close()
	if string(b) != want || q != report || e != api.OK || p != 0 {
		t.Errorf("P2: Close() = %.120q, %+v, %d, %d", b, q, e, p)
	}
	b = b[:cap(b)]
	for i := range b {
		b[i] = '#'
	}
	wantClose(t, other, outcome{text: want, report: report})
	if c.Buckets[:2][1] != 101 || !slices.Equal(c.Edges, []api.Edge{{Low: 2, High: 1}, {Low: 1, High: 0}}) {
		t.Errorf("P2: the configuration is %+v", c)
	}
}

// TestP2ByTurns feeds gates of different configurations by turns: each answers as if it were alone.
func TestP2ByTurns(t *testing.T) {
	r := rand.New(rand.NewSource(7))
	for range 300 {
		var gates []*redact.Gate
		var rests []string
		var want []outcome
		for range 2 + r.Intn(4) {
			c, document := drawnCase(r)
			if r.Intn(4) == 0 {
				document = drawn(r, c.In)
			}
			gates, rests, want = append(gates, open(t, c)), append(rests, document), append(want, passed(t, c, document))
		}
		for range 30 {
			i := r.Intn(len(gates))
			cut := r.Intn(len(rests[i]) + 1)
			gates[i].Feed([]byte(rests[i][:cut]))
			rests[i] = rests[i][cut:]
		}
		for i, g := range gates {
			g.Feed([]byte(rests[i]))
			if got := closed(t, g); got != want[i] {
				t.Fatalf("P2: by turns %v, alone %v", got, want[i])
			}
		}
	}
}
