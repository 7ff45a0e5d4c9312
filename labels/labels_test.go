package labels

import (
	"testing"

	"redact/api"
)

// climbs is a second way to say 'at most': it walks the edges from a label up.
func climbs(edges []api.Edge, from, to int) bool {
	seen := map[int]bool{from: true}
	for work := []int{from}; len(work) > 0; work = work[1:] {
		for _, e := range edges {
			if e.Low == work[0] && !seen[e.High] {
				seen[e.High] = true
				work = append(work, e.High)
			}
		}
	}
	return seen[to]
}

// least tells whether one of the labels that bound both is below all of those.
func least(count int, below func(a, b int) bool, a, b int) bool {
	var bounds []int
	for c := range count {
		if below(a, c) && below(b, c) {
			bounds = append(bounds, c)
		}
	}
	for _, c := range bounds {
		all := true
		for _, d := range bounds {
			all = all && below(c, d)
		}
		if all {
			return true
		}
	}
	return false
}

func compare(t *testing.T, count int, edges []api.Edge) {
	t.Helper()
	o, ok := New(count, edges)
	if !ok {
		t.Fatalf("New(%d, %v) is refused", count, edges)
	}
	up := func(a, b int) bool { return climbs(edges, a, b) }
	down := func(a, b int) bool { return climbs(edges, b, a) }
	cycle, lattice := false, true
	for a := range count {
		for b := range count {
			if o.AtMost(a, b) != up(a, b) {
				t.Fatalf("%d labels, %v: AtMost(%d, %d) = %v", count, edges, a, b, !up(a, b))
			}
			cycle = cycle || a != b && up(a, b) && up(b, a)
			lattice = lattice && least(count, up, a, b) && least(count, down, a, b)
		}
	}
	if o.HasCycle() != cycle || o.IsLattice() != lattice {
		t.Fatalf("%d labels, %v: cycle %v, lattice %v; want %v, %v", count, edges, o.HasCycle(), o.IsLattice(), cycle, lattice)
	}
}

// TestAllSmallOrders holds every set of edges among up to four labels against the second way.
func TestAllSmallOrders(t *testing.T) {
	for count := 1; count <= 4; count++ {
		var all []api.Edge
		for a := range count {
			for b := range count {
				if a != b {
					all = append(all, api.Edge{Low: a, High: b})
				}
			}
		}
		for set := range 1 << len(all) {
			var edges []api.Edge
			for i, e := range all {
				if set>>i&1 == 1 {
					edges = append(edges, e)
				}
			}
			compare(t, count, edges)
		}
	}
}

func TestOrdersOfSixLabels(t *testing.T) {
	for name, k := range map[string]struct {
		edges   []api.Edge
		cycle   bool
		lattice bool
	}{
		"a chain, its edges in no order":   {[]api.Edge{{Low: 2, High: 5}, {Low: 4, High: 0}, {Low: 0, High: 3}, {Low: 5, High: 4}, {Low: 3, High: 1}}, false, true},
		"four side by side":                {[]api.Edge{{Low: 0, High: 1}, {Low: 0, High: 2}, {Low: 0, High: 3}, {Low: 0, High: 4}, {Low: 1, High: 5}, {Low: 2, High: 5}, {Low: 3, High: 5}, {Low: 4, High: 5}}, false, true},
		"two joins that are not the least": {[]api.Edge{{Low: 0, High: 1}, {Low: 0, High: 2}, {Low: 1, High: 3}, {Low: 1, High: 4}, {Low: 2, High: 3}, {Low: 2, High: 4}, {Low: 3, High: 5}, {Low: 4, High: 5}}, false, false},
		"a cycle over all":                 {[]api.Edge{{Low: 0, High: 1}, {Low: 1, High: 2}, {Low: 2, High: 3}, {Low: 3, High: 4}, {Low: 4, High: 5}, {Low: 5, High: 0}}, true, true},
	} {
		compare(t, 6, k.edges)
		o, _ := New(6, k.edges)
		if o.HasCycle() != k.cycle || o.IsLattice() != k.lattice {
			t.Errorf("%s: cycle %v, lattice %v", name, o.HasCycle(), o.IsLattice())
		}
	}
}

func TestWrongOrders(t *testing.T) {
	edge := api.Edge{Low: 0, High: 1}
	many := func(n int) (edges []api.Edge) {
		for range n {
			edges = append(edges, edge)
		}
		return edges
	}
	for _, k := range []struct {
		count int
		edges []api.Edge
		ok    bool
	}{
		{1, nil, true}, {api.MaxLabels, nil, true}, {2, many(api.MaxEdges), true},
		{0, nil, false}, {-1, nil, false}, {api.MaxLabels + 1, nil, false}, {-1 << 63, nil, false}, {1<<63 - 1, nil, false},
		{2, many(api.MaxEdges + 1), false},
		{1, many(1), false},
		{2, []api.Edge{{Low: 0, High: 2}}, false}, {2, []api.Edge{{Low: 2, High: 0}}, false},
		{2, []api.Edge{{Low: -1, High: 0}}, false}, {2, []api.Edge{{Low: 0, High: -1}}, false},
		{2, []api.Edge{{Low: 1, High: 1}}, false}, {2, []api.Edge{edge, {Low: 0, High: 0}}, false},
		{2, []api.Edge{{Low: 5, High: 5}}, false},
	} {
		if o, ok := New(k.count, k.edges); ok != k.ok || !ok && o != (Order{}) {
			t.Errorf("New(%d, %v) = %v, %v", k.count, k.edges, o, ok)
		}
	}
}

func TestAtMostOfNoLabels(t *testing.T) {
	o, _ := New(2, []api.Edge{{Low: 0, High: 1}})
	for _, no := range []int{-1 << 63, -1, 2, 5, 6, 1<<63 - 1} {
		if o.Has(no) || o.AtMost(no, 0) || o.AtMost(0, no) || o.AtMost(no, no) {
			t.Errorf("%d counts as a label", no)
		}
	}
}
