package redact_test

import (
	"math/rand"
	"slices"
	"strings"
	"testing"

	"redact/api"
	"redact/redact"
)

const rules = "user/ssn 2 mask\n**/pin 1 drop\nlog/[]/* 1 tag\n. 0 drop"

const (
	smallest = -1 << 63
	largest  = 1<<63 - 1
)

func chain() api.Config {
	return api.Config{
		Labels: 3, Edges: []api.Edge{{Low: 0, High: 1}, {Low: 1, High: 2}}, Policy: rules,
		In: api.JSON, Out: api.JSON, Depth: 4, Bytes: 200,
	}
}

func wantCheck(t *testing.T, what string, c api.Config, errno api.Errno, line int) {
	t.Helper()
	if e, n := redact.Check(c); e != errno || n != line {
		t.Errorf("P3: %s: Check = %d, %d, want %d, %d", what, e, n, errno, line)
	}
}

func TestP3Right(t *testing.T) {
	wantCheck(t, "the document's example", chain(), api.OK, 0)
	wantCheck(t, "one label and nothing else", api.Config{Labels: 1, In: api.Pack, Out: api.CBOR, Depth: 1, Bytes: 1}, api.OK, 0)
	c := chain()
	c.Default, c.Clearance, c.Key, c.In, c.Out, c.Depth, c.Bytes = 2, 2, smallest, api.CBOR, api.Pack, api.MaxDepth, api.MaxBytes
	c.Buckets = []int{1, 2, 3, 4, 5, 6, 7, api.MaxBucket}
	wantCheck(t, "all at their bounds", c, api.OK, 0)
}

func TestP3Labels(t *testing.T) {
	for _, n := range []int{smallest, -1, 3, 6, largest} {
		c := chain()
		c.Default = n
		wantCheck(t, "Default", c, api.ErrLabels, 0)
		c = chain()
		c.Clearance = n
		wantCheck(t, "Clearance", c, api.ErrLabels, 0)
		c = chain()
		c.Edges[1].High = n
		wantCheck(t, "High", c, api.ErrLabels, 0)
		c = chain()
		c.Edges[1].Low = n
		wantCheck(t, "Low", c, api.ErrLabels, 0)
	}
	for _, n := range []int{smallest, -1, 0, api.MaxLabels + 1, largest} {
		c := chain()
		c.Labels = n
		wantCheck(t, "Labels", c, api.ErrLabels, 0)
	}
	c := chain()
	c.Edges[0] = api.Edge{Low: 2, High: 2}
	wantCheck(t, "a label below itself", c, api.ErrLabels, 0)
	c.Edges = slices.Repeat([]api.Edge{{Low: 0, High: 1}, {Low: 1, High: 2}}, api.MaxEdges/2)
	wantCheck(t, "MaxEdges edges", c, api.OK, 0)
	c.Edges = append(c.Edges, api.Edge{Low: 0, High: 2})
	wantCheck(t, "one edge more", c, api.ErrLabels, 0)
}

func TestP3OrderAndLattice(t *testing.T) {
	for what, k := range map[string]struct {
		labels int
		edges  []api.Edge
		errno  api.Errno
	}{
		"two below one another":   {2, []api.Edge{{Low: 0, High: 1}, {Low: 1, High: 0}}, api.ErrOrder},
		"a round of three":        {3, []api.Edge{{Low: 0, High: 1}, {Low: 1, High: 2}, {Low: 2, High: 0}}, api.ErrOrder},
		"a round, and no lattice": {4, []api.Edge{{Low: 0, High: 1}, {Low: 1, High: 0}}, api.ErrOrder},
		"no join":                 {3, []api.Edge{{Low: 0, High: 1}, {Low: 0, High: 2}}, api.ErrLattice},
		"no meet":                 {3, []api.Edge{{Low: 0, High: 2}, {Low: 1, High: 2}}, api.ErrLattice},
		"no order at all":         {2, nil, api.ErrLattice},
		"no least join": {6, []api.Edge{{Low: 0, High: 1}, {Low: 0, High: 2}, {Low: 1, High: 3}, {Low: 1, High: 4},
			{Low: 2, High: 3}, {Low: 2, High: 4}, {Low: 3, High: 5}, {Low: 4, High: 5}}, api.ErrLattice},
		"a square":                         {4, []api.Edge{{Low: 0, High: 1}, {Low: 0, High: 2}, {Low: 1, High: 3}, {Low: 2, High: 3}}, api.OK},
		"an edge that follows from others": {3, []api.Edge{{Low: 0, High: 1}, {Low: 1, High: 2}, {Low: 0, High: 2}}, api.OK},
	} {
		c := chain()
		c.Labels, c.Edges, c.Policy = k.labels, k.edges, ""
		wantCheck(t, what, c, k.errno, 0)
	}
}

func TestP3LimitsAndBuckets(t *testing.T) {
	for what, k := range map[string]struct {
		place func(c *api.Config) *int
		wrong []int
	}{
		"In":    {func(c *api.Config) *int { return &c.In }, []int{smallest, -1, 0, 4, largest}},
		"Out":   {func(c *api.Config) *int { return &c.Out }, []int{smallest, -1, 0, 4, largest}},
		"Depth": {func(c *api.Config) *int { return &c.Depth }, []int{smallest, -1, 0, api.MaxDepth + 1, largest}},
		"Bytes": {func(c *api.Config) *int { return &c.Bytes }, []int{smallest, -1, 0, api.MaxBytes + 1, largest}},
	} {
		for _, n := range k.wrong {
			c := chain()
			*k.place(&c) = n
			wantCheck(t, what, c, api.ErrLimits, 0)
		}
	}
	for _, buckets := range [][]int{{0}, {smallest}, {-1, 5}, {api.MaxBucket + 1}, {largest}, {7, 7}, {7, 6}, {1, 9, 8}, {1, 2, 3, 4, 5, 6, 7, 8, 9}, make([]int, 10000)} {
		c := chain()
		c.Buckets = buckets
		wantCheck(t, "buckets", c, api.ErrBuckets, 0)
	}
}

func TestP3Policy(t *testing.T) {
	for policy, line := range map[string]int{
		"a 0 drop\na  0 drop": 1, "a 3 drop": 0, "a 0 hide": 0, "a// 0 drop": 0, "a.b 0 drop": 0,
		rules + "\n": 4, rules + "\r": 3, rules + "\n" + rules + "\n\n": 8,
		strings.Repeat(". 0 drop\n", api.MaxRules) + ". 0 drop":              api.MaxRules,
		"x 0 drop\n?" + strings.Repeat("\nx 0 drop", api.MaxPolicy/9):        0,
		"x 0 drop\n?" + strings.Repeat("\nx 0 drop", api.MaxPolicy/9-2):      1,
		"x 0 drop\nx 0 drop\n\xff 0 drop\n" + strings.Repeat("\n", 30) + "?": 2,
	} {
		c := chain()
		c.Policy = policy
		wantCheck(t, "the policy "+policy[:min(40, len(policy))], c, api.ErrPolicy, line)
	}
}

func TestP4(t *testing.T) {
	c := chain()
	c.Labels, c.Policy = 4, ""
	c.Edges = []api.Edge{{Low: 3, High: 1}, {Low: 1, High: 0}, {Low: 3, High: 2}, {Low: 2, High: 0}}
	above := [4][4]bool{0: {0: true}, 1: {0: true, 1: true}, 2: {0: true, 2: true}, 3: {true, true, true, true}}
	for a := range 4 {
		for b := range 4 {
			if y, e := redact.Leq(c, a, b); y != above[a][b] || e != api.OK {
				t.Errorf("P4: Leq(%d, %d) = %v, %d", a, b, y, e)
			}
		}
	}
	for _, no := range []int{smallest, -1, 4, 5, 6, largest} {
		for _, pair := range [][2]int{{no, 0}, {0, no}, {no, no}} {
			if y, e := redact.Leq(c, pair[0], pair[1]); y || e != api.ErrArg {
				t.Errorf("P4: Leq(%d, %d) = %v, %d, want ErrArg", pair[0], pair[1], y, e)
			}
		}
	}
}

// TestP4TellsCheckFirst: the error of Check counts ahead of labels that are none, and its line is not taken for an answer.
func TestP4TellsCheckFirst(t *testing.T) {
	for errno, spoil := range map[api.Errno]func(c *api.Config){
		api.ErrLabels:  func(c *api.Config) { c.Default = 3 },
		api.ErrOrder:   func(c *api.Config) { c.Edges = append(c.Edges, api.Edge{Low: 2, High: 0}) },
		api.ErrLattice: func(c *api.Config) { c.Edges = nil },
		api.ErrLimits:  func(c *api.Config) { c.Depth = 0 },
		api.ErrBuckets: func(c *api.Config) { c.Buckets = []int{0} },
		api.ErrPolicy:  func(c *api.Config) { c.Policy = ". 0 drop\n?" },
	} {
		c := chain()
		spoil(&c)
		for _, pair := range [][2]int{{0, 0}, {0, 1}, {-1, 9}} {
			if y, e := redact.Leq(c, pair[0], pair[1]); y || e != errno {
				t.Errorf("P4: Leq(%d, %d) = %v, %d, want false, %d", pair[0], pair[1], y, e, errno)
			}
		}
	}
}

// wild makes a configuration of numbers at and around all bounds, and of a policy cut and stirred.
func wild(r *rand.Rand) api.Config {
	numbers := []int{smallest, -1, 0, 1, 2, 3, 5, 6, 7, 16, 17, 4096, 4097, 65536, 65537, largest}
	number := func(usual int) int {
		if r.Intn(12) > 0 {
			return usual
		}
		return numbers[r.Intn(len(numbers))]
	}
	c := api.Config{
		Labels: number(3), Default: number(0), Clearance: number(1), Key: number(7),
		In: number(api.JSON), Out: number(api.Pack), Depth: number(3), Bytes: number(50),
	}
	for range r.Intn(4) * r.Intn(12) {
		c.Edges = append(c.Edges, api.Edge{Low: number(r.Intn(3)), High: number(r.Intn(3))})
	}
	if r.Intn(2) > 0 {
		c.Edges = chain().Edges
	}
	for i := range r.Intn(4) * r.Intn(4) {
		c.Buckets = append(c.Buckets, number(i+1))
	}
	policy := []byte(rules)
	for range r.Intn(3) {
		policy[r.Intn(len(policy))] = byte(r.Intn(256))
	}
	c.Policy = string(policy[:len(policy)-r.Intn(2)*r.Intn(len(policy))])
	return c
}

func TestP1EndsAndTellsZeros(t *testing.T) {
	r := rand.New(rand.NewSource(1))
	seen := map[api.Errno]int{}
	for range 100000 {
		c := wild(r)
		errno, line := redact.Check(c)
		seen[errno]++
		if errno < api.OK || errno > api.ErrPolicy || line != 0 && errno != api.ErrPolicy || line < 0 || line > api.MaxRules {
			t.Fatalf("P1: %+v: Check = %d, %d", c, errno, line)
		}
		a, b := r.Intn(9)-3, r.Intn(9)-3
		y, e := redact.Leq(c, a, b)
		if errno != api.OK && e != errno || e != api.OK && y {
			t.Fatalf("P1: %+v: Check = %d, Leq(%d, %d) = %v, %d", c, errno, a, b, y, e)
		}
	}
	for errno := api.OK; errno <= api.ErrPolicy; errno++ {
		if seen[errno] == 0 {
			t.Errorf("none of the configurations is %d", errno)
		}
	}
}

func TestP1LongLists(t *testing.T) {
	c := chain()
	c.Edges = make([]api.Edge, 1<<20)
	wantCheck(t, "a million edges", c, api.ErrLabels, 0)
	c = chain()
	c.Buckets = make([]int, 1<<20)
	wantCheck(t, "a million buckets", c, api.ErrBuckets, 0)
	c = chain()
	c.Policy = strings.Repeat("**/", 1<<20)
	wantCheck(t, "a policy of three million bytes", c, api.ErrPolicy, 0)
}

// TestP2 looks at what is handed in, its spare room too, behind each call.
func TestP2(t *testing.T) {
	edges := []api.Edge{{Low: 0, High: 1}, {Low: 1, High: 2}, {Low: 77, High: 77}, {Low: 78, High: 79}}
	buckets := []int{64, 128, 3, 99}
	for _, policy := range []string{rules, "?"} {
		c := chain()
		c.Edges, c.Buckets, c.Policy = slices.Clone(edges)[:2], slices.Clone(buckets)[:2], policy
		redact.Check(c)
		redact.Leq(c, 0, 2)
		redact.Leq(c, 0, 3)
		if !slices.Equal(c.Edges[:4], edges) || !slices.Equal(c.Buckets[:4], buckets) {
			t.Errorf("P2: edges %v and buckets %v, with their spare room", c.Edges[:4], c.Buckets[:4])
		}
	}
}

// TestP2KeepsNothing writes into what was handed in, and asks again.
func TestP2KeepsNothing(t *testing.T) {
	c := chain()
	if y, e := redact.Leq(c, 0, 2); !y || e != api.OK {
		t.Fatalf("P4: Leq(0, 2) = %v, %d", y, e)
	}
	c.Edges[0], c.Edges[1] = api.Edge{Low: 2, High: 1}, api.Edge{Low: 1, High: 0}
	if y, e := redact.Leq(c, 0, 2); y || e != api.OK {
		t.Errorf("P2: Leq(0, 2) behind a change of the edges = %v, %d", y, e)
	}
	c.Edges[0].Low = 9
	wantCheck(t, "edges made wrong", c, api.ErrLabels, 0)
	wantCheck(t, "another configuration", chain(), api.OK, 0)
}
