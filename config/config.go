// Package config: a configuration, checked and read.
package config

import (
	"redact/api"
	"redact/labels"
	"redact/policy"
)

// Setup is what the calls need of a configuration, once it is read.
type Setup struct {
	Order labels.Order
	Rules []policy.Rule
}

// Read reads a configuration, or tells the first thing that is wrong with it; of a policy the line.
func Read(c api.Config) (Setup, api.Errno, int) {
	order, errno := readOrder(c)
	switch {
	case errno != api.OK:
		return Setup{}, errno, 0
	case !LimitsOK(c.In, c.Out, c.Depth, c.Bytes):
		return Setup{}, api.ErrLimits, 0
	case !bucketsOK(c.Buckets):
		return Setup{}, api.ErrBuckets, 0
	}
	rules, errno, line := policy.Read(c.Policy, c.Labels)
	if errno != api.OK {
		return Setup{}, errno, line
	}
	return Setup{Order: order, Rules: rules}, api.OK, 0
}

func readOrder(c api.Config) (labels.Order, api.Errno) {
	order, ok := labels.New(c.Labels, c.Edges)
	switch {
	case !ok || !order.Has(c.Default) || !order.Has(c.Clearance):
		return labels.Order{}, api.ErrLabels
	case order.HasCycle():
		return labels.Order{}, api.ErrOrder
	case !order.IsLattice():
		return labels.Order{}, api.ErrLattice
	}
	return order, api.OK
}

// LimitsOK tells whether the formats of what comes in and goes out are formats, and whether the limits of the reading are within their bounds.
func LimitsOK(in, out, depth, bytes int) bool {
	return IsFormat(in) && IsFormat(out) &&
		depth >= 1 && depth <= api.MaxDepth &&
		bytes >= 1 && bytes <= api.MaxBytes
}

// IsFormat tells whether a number is one of the formats.
func IsFormat(format int) bool {
	return format == api.JSON || format == api.CBOR || format == api.Pack
}

func bucketsOK(buckets []int) bool {
	if len(buckets) > api.MaxBuckets {
		return false
	}
	before := 0
	for _, bucket := range buckets {
		if bucket <= before || bucket > api.MaxBucket {
			return false
		}
		before = bucket
	}
	return true
}
