package redact_test

import (
	"fmt"
	"math/rand"
	"slices"
	"strings"
	"testing"

	"redact/api"
	"redact/redact"
)

// pathOf reads steps with blanks between; # is one into a list, and - one by the key without a byte.
func pathOf(text string) []api.Step {
	var path []api.Step
	for _, word := range strings.Fields(text) {
		switch word {
		case "#":
			path = append(path, api.Step{Index: true})
		case "-":
			path = append(path, api.Step{})
		default:
			path = append(path, api.Step{Key: word})
		}
	}
	return path
}

// told is short, however long the path is.
func told(path []api.Step) string {
	return fmt.Sprintf("%.200s", fmt.Sprintf("%d steps %#v", len(path), path))
}

func wantLabel(t *testing.T, c api.Config, path []api.Step, label int, action int) {
	t.Helper()
	if l, a, e := redact.Label(c, path); l != label || a != action || e != api.OK {
		t.Errorf("P5: %.60q, Default %d: Label(%s) = %d, %d, %d, want %d, %d", c.Policy, c.Default, told(path), l, a, e, label, action)
	}
}

func wantNoLabel(t *testing.T, c api.Config, path []api.Step, errno api.Errno) {
	t.Helper()
	if l, a, e := redact.Label(c, path); l != 0 || a != 0 || e != errno {
		t.Errorf("P5: Label(%s) = %d, %d, %d, want 0, 0, %d", told(path), l, a, e, errno)
	}
}

func TestP5Example(t *testing.T) {
	for text, want := range map[string][2]int{
		"user ssn":  {2, api.Mask},
		"a b pin":   {1, api.Drop},
		"pin":       {1, api.Drop},
		"log # x":   {1, api.Tag},
		"user":      {0, api.Drop},
		"":          {0, api.Drop},
		"log # pin": {1, api.Drop},
		"log # -":   {1, api.Tag},
		"log x y":   {0, api.Drop},
		"# user":    {0, api.Drop},
	} {
		wantLabel(t, chain(), pathOf(text), want[0], want[1])
	}
}

// TestP5Patterns: for each pattern the paths that it matches, and others.
func TestP5Patterns(t *testing.T) {
	for pattern, k := range map[string]struct{ yes, no []string }{
		".":         {[]string{""}, []string{"a", "#", "-", "dot"}},
		"*":         {[]string{"a", "#", "-", "*", "**"}, []string{"", "a b", "# #"}},
		"**":        {[]string{"", "a", "#", "a # -"}, nil},
		"[]":        {[]string{"#"}, []string{"", "a", "[]", "-", "# #"}},
		"a":         {[]string{"a"}, []string{"", "A", "b", "aa", "#", "-", "a a", "á"}},
		"é":         {[]string{"é"}, []string{"e", "e\u0301", "\xe9", "\xc3", "\ufffd"}},
		"\ufffd":    {[]string{"\ufffd"}, []string{"\xff", "\x80", "\ufffd\xff"}},
		"a/b":       {[]string{"a b"}, []string{"", "a", "b", "b a", "a b c", "a/b"}},
		"**/a":      {[]string{"a", "a a", "# b a"}, []string{"", "b", "a b", "#"}},
		"a/**":      {[]string{"a", "a a", "a # b"}, []string{"", "b", "b a", "#"}},
		"a/**/b":    {[]string{"a b", "a a b", "a b b", "a b a # b"}, []string{"", "a", "b", "a b a"}},
		"**/**":     {[]string{"", "a", "# #"}, nil},
		"*/**":      {[]string{"a", "# b", "a b c"}, []string{""}},
		"**/*/**":   {[]string{"a", "# b", "a b c"}, []string{""}},
		"*/**/*":    {[]string{"a b", "a # b"}, []string{"", "a"}},
		"**/a/*/b":  {[]string{"a a b", "a a a b", "a a b b", "a # b"}, []string{"a b", "a b b b", "a # b #"}},
		"**/[]/**":  {[]string{"#", "a #", "# a", "a # a"}, []string{"", "a", "[] []"}},
		"[]/[]":     {[]string{"# #"}, []string{"#", "# # #", "# a", "a #"}},
		"**/a/**/a": {[]string{"a a", "a # a", "b a a", "a a a"}, []string{"a", "a b", "a a b"}},

		"a/b/c/d/e/f/g/h": {[]string{"a b c d e f g h"}, []string{"a b c d e f g", "a b c d e f g h i", "a b c d e f g x"}},
		"*/*/*/*/*/*/*/*": {[]string{"a # c d # f g h"}, []string{"a b c d e f g", "a b c d e f g h i"}},

		"**/**/**/**/**/**/**/**": {[]string{"", "a", "a b c d e f g h i j"}, nil},
		"**/*/**/*/**/*/**/*":     {[]string{"a b c d", "a b c d e f g h i"}, []string{"", "a b c"}},
	} {
		c := chain()
		c.Policy, c.Default = pattern+" 1 tag", 2
		for _, text := range k.yes {
			wantLabel(t, c, pathOf(text), 1, api.Tag)
		}
		for _, text := range k.no {
			wantLabel(t, c, pathOf(text), 2, api.Drop)
		}
	}
}

func TestP5FirstRuleCounts(t *testing.T) {
	c := chain()
	c.Policy = "a/* 1 mask\n*/b 2 tag\n[] 2 drop\na/b 2 drop\n** 0 tag\na/c/d 2 mask"
	for text, want := range map[string][2]int{
		"a b": {1, api.Mask}, "x b": {2, api.Tag}, "#": {2, api.Drop}, "a": {0, api.Tag}, "a c d": {0, api.Tag}, "": {0, api.Tag},
	} {
		wantLabel(t, c, pathOf(text), want[0], want[1])
	}
	c.Policy = strings.Repeat("x 0 mask\n", api.MaxRules-1) + "y 2 tag"
	wantLabel(t, c, pathOf("y"), 2, api.Tag)
	wantLabel(t, c, pathOf("x"), 0, api.Mask)
}

// TestP5Default: a path that no rule matches; neither the receiver's label nor the formats have a say.
func TestP5Default(t *testing.T) {
	for label := range 3 {
		for _, policy := range []string{"", "a 1 mask"} {
			c := chain()
			c.Policy, c.Default, c.Clearance, c.In, c.Out = policy, label, (label+1)%3, api.CBOR, api.Pack
			for _, text := range []string{"", "b", "a a", "#"} {
				wantLabel(t, c, pathOf(text), label, api.Drop)
			}
		}
	}
}

// TestP5LongPaths: neither Depth nor Bytes of the configuration bounds a path.
func TestP5LongPaths(t *testing.T) {
	c := chain()
	c.Depth, c.Bytes, c.Policy = 1, 1, "a/**/b 1 mask\n**/[] 2 tag"
	path := make([]api.Step, api.MaxBytes)
	wantLabel(t, c, path, 0, api.Drop)
	path[api.MaxBytes-1].Key = "b"
	wantLabel(t, c, path, 0, api.Drop)
	path[0].Key = "a"
	wantLabel(t, c, path, 1, api.Mask)
	path[api.MaxBytes-1] = api.Step{Index: true}
	wantLabel(t, c, path, 2, api.Tag)
	wantNoLabel(t, c, append(path, api.Step{Key: "b"}), api.ErrArg)
	wantNoLabel(t, c, make([]api.Step, 1<<20), api.ErrArg)
}

func TestP5StepsThatAreNone(t *testing.T) {
	for _, key := range []string{"a", "#", "\x00", "\xff", "[]"} {
		step := api.Step{Key: key, Index: true}
		for _, policy := range []string{"", "** 1 tag", "a 1 tag", "[] 1 tag"} {
			c := chain()
			c.Policy = policy
			wantNoLabel(t, c, []api.Step{step}, api.ErrArg)
			wantNoLabel(t, c, []api.Step{step, {Key: "b"}}, api.ErrArg)
			wantNoLabel(t, c, []api.Step{{Key: "b"}, {Index: true}, step}, api.ErrArg)
			wantNoLabel(t, c, append(make([]api.Step, api.MaxBytes-1), step), api.ErrArg)
		}
	}
}

// TestP5AnyKey: keys that are no characters, and keys that look like segments.
func TestP5AnyKey(t *testing.T) {
	c := chain()
	c.Policy = "*/*/[] 1 mask\n*/a 2 tag\n[] 2 mask"
	for _, key := range []string{"", "\xff", "\xed\xa0\x80", "*", "**", "[]", ".", "a/b", " ", "\n", strings.Repeat("a", 1<<20)} {
		wantLabel(t, c, []api.Step{{Key: key}}, 0, api.Drop)
		wantLabel(t, c, []api.Step{{Key: key}, {Key: "a"}}, 2, api.Tag)
		wantLabel(t, c, []api.Step{{Key: "a"}, {Key: key}, {Index: true}}, 1, api.Mask)
	}
}

// TestP5TellsCheckFirst: the error of Check counts ahead of a path that is none.
func TestP5TellsCheckFirst(t *testing.T) {
	for errno, spoil := range map[api.Errno]func(c *api.Config){
		api.ErrLabels:  func(c *api.Config) { c.Clearance = -1 },
		api.ErrOrder:   func(c *api.Config) { c.Edges = append(c.Edges, api.Edge{Low: 2, High: 0}) },
		api.ErrLattice: func(c *api.Config) { c.Edges = nil },
		api.ErrLimits:  func(c *api.Config) { c.Out = 0 },
		api.ErrBuckets: func(c *api.Config) { c.Buckets = []int{2, 1} },
		api.ErrPolicy:  func(c *api.Config) { c.Policy = "** 2 tag\n?" },
	} {
		c := chain()
		spoil(&c)
		for _, path := range [][]api.Step{nil, pathOf("user ssn"), {{Key: "a", Index: true}}, make([]api.Step, api.MaxBytes+1)} {
			wantNoLabel(t, c, path, errno)
		}
	}
}

// TestP1Label: in configurations and at paths of all sorts the answer is an error and zeros, or a label and an action.
func TestP1Label(t *testing.T) {
	r := rand.New(rand.NewSource(5))
	steps := append(pathOf("user ssn pin log # # - \xff"), api.Step{Key: "user", Index: true})
	seen := map[api.Errno]int{}
	for range 50000 {
		c, path := wild(r), make([]api.Step, r.Intn(6))
		for i := range path {
			path[i] = steps[r.Intn(len(steps))]
		}
		want, _ := redact.Check(c)
		if want == api.OK && slices.Contains(path, steps[len(steps)-1]) {
			want = api.ErrArg
		}
		l, a, e := redact.Label(c, path)
		seen[e]++
		right := e == want && l == 0 && a == 0
		if want == api.OK {
			right = e == want && l >= 0 && l < c.Labels && a >= api.Drop && a <= api.Tag
		}
		if !right {
			t.Fatalf("P1: %+v: Label(%s) = %d, %d, %d, want the error %d", c, told(path), l, a, e, want)
		}
	}
	for errno := api.OK; errno <= api.ErrArg; errno++ {
		if seen[errno] == 0 {
			t.Errorf("none of the answers is %d", errno)
		}
	}
}

// TestP2Label looks at what is handed in, its spare room too, and writes into it behind the call.
func TestP2Label(t *testing.T) {
	path := append(pathOf("log # x"), pathOf("spare # room")...)
	edges := append(chain().Edges, api.Edge{Low: 77, High: 77})
	buckets := []int{64, 128, 3}
	c := chain()
	c.Edges, c.Buckets = slices.Clone(edges)[:2], slices.Clone(buckets)[:2]
	handed := slices.Clone(path)[:3]
	wantLabel(t, c, handed, 1, api.Tag)
	if !slices.Equal(handed[:len(path)], path) || !slices.Equal(c.Edges[:3], edges) || !slices.Equal(c.Buckets[:3], buckets) {
		t.Errorf("P2: path %v, edges %v and buckets %v, with their spare room", handed[:len(path)], c.Edges[:3], c.Buckets[:3])
	}
	handed[1] = api.Step{Key: "y"}
	wantLabel(t, c, handed, 0, api.Drop)
	handed[1] = api.Step{Index: true}
	wantLabel(t, c, handed, 1, api.Tag)
	c.Policy = "log/[]/x 2 mask"
	wantLabel(t, c, handed, 2, api.Mask)
	wantLabel(t, chain(), handed, 1, api.Tag)
}
