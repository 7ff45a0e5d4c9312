package config

import (
	"reflect"
	"testing"

	"redact/api"
	"redact/labels"
	"redact/policy"
)

func right() api.Config {
	return api.Config{
		Labels: 2, Edges: []api.Edge{{Low: 0, High: 1}}, Default: 1, Policy: "a 1 tag",
		In: api.JSON, Out: api.CBOR, Depth: 1, Bytes: 1, Buckets: []int{1, 2},
	}
}

func TestSetup(t *testing.T) {
	setup, e, line := Read(right())
	order, _ := labels.New(2, []api.Edge{{Low: 0, High: 1}})
	rules := []policy.Rule{{Pattern: []policy.Segment{{Kind: policy.KeyStep, Key: "a"}}, Label: 1, Action: api.Tag}}
	if e != api.OK || line != 0 || setup.Order != order || !reflect.DeepEqual(setup.Rules, rules) {
		t.Errorf("Read = %v, %d, %d", setup, e, line)
	}
}

// faults are in the order in which they count; each later one leaves the earlier parts right.
var faults = []struct {
	errno api.Errno
	spoil func(c *api.Config)
}{
	{api.ErrLabels, func(c *api.Config) { c.Clearance = 2 }},
	{api.ErrOrder, func(c *api.Config) { c.Edges = append(c.Edges, api.Edge{Low: 1, High: 0}) }},
	{api.ErrLattice, func(c *api.Config) { c.Labels = 3 }},
	{api.ErrLimits, func(c *api.Config) { c.Bytes = 0 }},
	{api.ErrBuckets, func(c *api.Config) { c.Buckets = []int{2, 2} }},
	{api.ErrPolicy, func(c *api.Config) { c.Policy = ". 0 drop\n?" }},
}

// TestFirstFaultCounts puts every set of faults together.
func TestFirstFaultCounts(t *testing.T) {
	for set := 1; set < 1<<len(faults); set++ {
		c := right()
		want := api.OK
		for i, f := range faults {
			if set>>i&1 == 0 {
				continue
			}
			f.spoil(&c)
			if want == api.OK {
				want = f.errno
			}
		}
		// The third label makes 2 a right Clearance.
		if want == api.ErrLabels && c.Labels == 3 {
			c.Clearance = 3
		}
		line := 0
		if want == api.ErrPolicy {
			line = 1
		}
		if setup, e, n := Read(c); e != want || n != line || !reflect.DeepEqual(setup, Setup{}) {
			t.Errorf("%+v: %d, %d, want %d, %d", c, e, n, want, line)
		}
	}
}
