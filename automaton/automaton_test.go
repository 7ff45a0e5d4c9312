package automaton

import (
	"math/rand"
	"slices"
	"strings"
	"testing"

	"redact/api"
	"redact/policy"
)

// matches tries all cuts of the path into pieces, one for each segment.
func matches(pattern []policy.Segment, path []api.Step) bool {
	if len(pattern) == 0 {
		return len(path) == 0
	}
	for cut := 0; cut <= len(path); cut++ {
		if isPiece(pattern[0], path[:cut]) && matches(pattern[1:], path[cut:]) {
			return true
		}
	}
	return false
}

func isPiece(segment policy.Segment, piece []api.Step) bool {
	if segment.Kind == policy.AnySteps {
		return true
	}
	if len(piece) != 1 {
		return false
	}
	switch segment.Kind {
	case policy.AnyStep:
		return true
	case policy.ListStep:
		return piece[0].Index
	}
	return !piece[0].Index && piece[0].Key == segment.Key
}

func verdictByCuts(rules []policy.Rule, fallback int, path []api.Step) (int, int) {
	for _, rule := range rules {
		if matches(rule.Pattern, path) {
			return rule.Label, rule.Action
		}
	}
	return fallback, api.Drop
}

func walk(a *Automaton, path []api.Step) (int, int) {
	state := Start
	for _, step := range path {
		state = a.Next(state, step)
	}
	return a.Verdict(state)
}

// compare asks one automaton for all the paths, so that what it has found for one serves the next.
func compare(t *testing.T, rules []policy.Rule, fallback int, paths [][]api.Step) {
	t.Helper()
	a := Compile(rules, fallback)
	for _, path := range paths {
		label, action := walk(a, path)
		if l, c := verdictByCuts(rules, fallback, path); label != l || action != c {
			t.Fatalf("%v: the path %v is %d, %d, want %d, %d", rules, path, label, action, l, c)
		}
	}
}

var segments = []policy.Segment{
	{Kind: policy.AnyStep}, {Kind: policy.AnySteps}, {Kind: policy.ListStep}, {Kind: policy.KeyStep, Key: "a"}, {Kind: policy.KeyStep, Key: "é"},
}

var steps = []api.Step{{Key: "a"}, {Key: "é"}, {Key: "x"}, {Key: ""}, {Index: true}}

// upTo lists the sequences of up to most of the parts.
func upTo[T any](parts []T, most int) [][]T {
	all := [][]T{nil}
	last := all
	for range most {
		var longer [][]T
		for _, list := range last {
			for _, part := range parts {
				longer = append(longer, append(slices.Clone(list), part))
			}
		}
		all, last = append(all, longer...), longer
	}
	return all
}

func TestAllShortPatterns(t *testing.T) {
	paths := upTo(steps, 4)
	for _, pattern := range upTo(segments, 4) {
		compare(t, []policy.Rule{{Pattern: pattern, Label: 1, Action: api.Tag}}, 2, paths)
	}
}

func drawn[T any](r *rand.Rand, parts []T, most int) []T {
	list := make([]T, r.Intn(most+1))
	for i := range list {
		list[i] = parts[r.Intn(len(parts))]
	}
	return list
}

// TestManyRules: the first rule counts that matches, of up to MaxRules with up to MaxSegments segments.
func TestManyRules(t *testing.T) {
	r := rand.New(rand.NewSource(1))
	for range 2000 {
		rules := make([]policy.Rule, r.Intn(api.MaxRules+1))
		for i := range rules {
			// The label tells the rules apart.
			rules[i] = policy.Rule{Pattern: drawn(r, segments, api.MaxSegments), Label: i, Action: 1 + r.Intn(3)}
		}
		var paths [][]api.Step
		for range 20 {
			paths = append(paths, drawn(r, steps, 11))
		}
		compare(t, rules, 99, paths)
	}
}

// TestLastPlaces: the last of the rules, and the place behind the last of its segments.
func TestLastPlaces(t *testing.T) {
	rules := make([]policy.Rule, api.MaxRules)
	for i := range rules {
		rules[i] = policy.Rule{Pattern: slices.Repeat(segments[3:4], i%api.MaxSegments+1), Label: i, Action: api.Mask}
	}
	rules[api.MaxRules-1].Pattern = slices.Repeat(segments[2:3], api.MaxSegments)
	a := Compile(rules, 99)
	for length := range api.MaxSegments + 2 {
		for step, want := range map[api.Step]int{{Index: true}: api.MaxRules - 1, {Key: "a"}: length - 1} {
			if length == 0 || length > api.MaxSegments || step.Index && length < api.MaxSegments {
				want = 99
			}
			if label, _ := walk(a, slices.Repeat([]api.Step{step}, length)); label != want {
				t.Errorf("%d steps %v: %d, want %d", length, step, label, want)
			}
		}
	}
}

func read(t *testing.T, text string) []policy.Rule {
	t.Helper()
	rules, errno, line := policy.Read(text, api.MaxLabels)
	if errno != api.OK {
		t.Fatalf("%q: %d, %d", text, errno, line)
	}
	return rules
}

// TestStatesAreFound: paths that lead to the same places lead to the same state.
func TestStatesAreFound(t *testing.T) {
	a := Compile(read(t, "**/a 1 tag\nb/* 2 mask"), 0)
	ways := [][]api.Step{
		{{Key: "x"}, {Key: "y"}},
		{{Key: "x"}, {Key: "z"}},
		{{Index: true}, {Index: true}},
		{{Key: "a"}, {Key: "y"}},
		{{Key: "a"}, {Key: "b"}, {Key: ""}},
		slices.Repeat([]api.Step{{Key: "z"}}, api.MaxBytes),
	}
	end := func(path []api.Step) int {
		state := Start
		for _, step := range path {
			state = a.Next(state, step)
		}
		return state
	}
	for _, way := range ways[1:] {
		if end(way) != end(ways[0]) {
			t.Errorf("a state of its own for a path of %d steps", len(way))
		}
	}
	if len(a.states) > 5 || len(a.numbers) != len(a.states) {
		t.Errorf("%d states, %d numbers", len(a.states), len(a.numbers))
	}
}

// TestStatesAreMadeWhenNeeded: these rules have states for every sequence of seven keys out of seventeen, far too many to make them all.
func TestStatesAreMadeWhenNeeded(t *testing.T) {
	var lines []string
	for key := range api.MaxRules {
		lines = append(lines, "**/"+string(rune('a'+key))+strings.Repeat("/*", 6)+" 1 tag")
	}
	a := Compile(read(t, strings.Join(lines, "\n")), 0)
	r := rand.New(rand.NewSource(1))
	path := make([]api.Step, api.MaxBytes)
	for i := range path {
		path[i].Key = string(rune('a' + r.Intn(api.MaxRules+10)))
	}
	state := Start
	for i, step := range path {
		state = a.Next(state, step)
		label, _ := a.Verdict(state)
		want := 0
		if i >= 6 && path[i-6].Key < string(rune('a'+api.MaxRules)) {
			want = 1
		}
		if label != want {
			t.Fatalf("behind the step %d: %d, want %d", i, label, want)
		}
	}
	if len(a.states) > api.MaxBytes+1 {
		t.Errorf("%d states", len(a.states))
	}
}
