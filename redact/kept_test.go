package redact

import (
	"reflect"
	"strings"
	"testing"

	"redact/api"
)

// TestKept: however much is fed, a gate keeps no more than can count, and one that is closed keeps nothing.
func TestKept(t *testing.T) {
	g, errno := Open(api.Config{Labels: 1, In: api.JSON, Out: api.JSON, Depth: 1, Bytes: 10, Buckets: []int{20}})
	if errno != api.OK {
		t.Fatalf("Open = %d", errno)
	}
	for range 5 {
		g.Feed([]byte(strings.Repeat(" ", 1000)))
		if len(g.fed) != 11 || cap(g.fed) > 100 {
			t.Errorf("%d bytes are kept, in room for %d", len(g.fed), cap(g.fed))
		}
	}
	g.Close()
	if !reflect.DeepEqual(*g, Gate{closed: true}) {
		t.Errorf("a closed gate keeps %+v", *g)
	}
}
