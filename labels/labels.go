// Package labels: the labels of a configuration and which of them are at most which.
package labels

import "redact/api"

// Order tells, of labels from 0 on, which are at most which.
type Order struct {
	count  int
	atMost [api.MaxLabels][api.MaxLabels]bool
}

// New makes the order that the edges lead to; false, if the number of labels, the number of edges or an edge is wrong.
func New(count int, edges []api.Edge) (Order, bool) {
	if count < 1 || count > api.MaxLabels || len(edges) > api.MaxEdges {
		return Order{}, false
	}
	o := Order{count: count}
	for label := range count {
		o.atMost[label][label] = true
	}
	for _, e := range edges {
		if !o.Has(e.Low) || !o.Has(e.High) || e.Low == e.High {
			return Order{}, false
		}
		o.atMost[e.Low][e.High] = true
	}
	o.followEdges()
	return o, true
}

// followEdges lets edges lead on over other labels. The label between is the outer loop, so that one round is enough.
func (o *Order) followEdges() {
	for between := range o.count {
		for low := range o.count {
			for high := range o.count {
				if o.atMost[low][between] && o.atMost[between][high] {
					o.atMost[low][high] = true
				}
			}
		}
	}
}

// Has tells whether a number is one of the labels.
func (o Order) Has(label int) bool {
	return label >= 0 && label < o.count
}

// AtMost tells whether label a is at most label b; false, if one of them is no label.
func (o Order) AtMost(a, b int) bool {
	return o.Has(a) && o.Has(b) && o.atMost[a][b]
}

// HasCycle tells whether two different labels are at most one another.
func (o Order) HasCycle() bool {
	for a := range o.count {
		for b := range a {
			if o.atMost[a][b] && o.atMost[b][a] {
				return true
			}
		}
	}
	return false
}

// IsLattice tells whether every two labels have a join and a meet.
func (o Order) IsLattice() bool {
	// A meet is a join in the order that is turned over.
	turned := o.turned()
	for a := range o.count {
		for b := range a {
			if !o.hasJoin(a, b) || !turned.hasJoin(a, b) {
				return false
			}
		}
	}
	return true
}

func (o Order) turned() Order {
	t := Order{count: o.count}
	for a := range o.count {
		for b := range o.count {
			t.atMost[a][b] = o.atMost[b][a]
		}
	}
	return t
}

func (o Order) hasJoin(a, b int) bool {
candidates:
	for join := range o.count {
		if !o.boundsBoth(join, a, b) {
			continue
		}
		for other := range o.count {
			if o.boundsBoth(other, a, b) && !o.atMost[join][other] {
				continue candidates
			}
		}
		return true
	}
	return false
}

func (o Order) boundsBoth(bound, a, b int) bool {
	return o.atMost[a][bound] && o.atMost[b][bound]
}
