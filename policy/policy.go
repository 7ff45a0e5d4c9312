// Package policy: the rules of a policy, read from its text.
package policy

import (
	"strings"
	"unicode/utf8"

	"redact/api"
)

// Kind tells which steps a segment stands for.
type Kind int

const (
	AnyStep  Kind = iota // one step, any
	AnySteps             // any number of steps, 0 or more
	ListStep             // one step into a list
	KeyStep              // one step into a map, by the segment's key
)

// Segment is a part of a pattern. Key is empty but for KeyStep.
type Segment struct {
	Kind Kind
	Key  string
}

// Rule gives the label and the action to the paths that its pattern matches.
type Rule struct {
	Pattern []Segment
	Label   int
	Action  int
}

// signs are the segments that are no literals.
var signs = [...]struct {
	text string
	kind Kind
}{
	{"*", AnyStep},
	{"**", AnySteps},
	{"[]", ListStep},
}

// Read reads the rules of a policy for labels from 0 to labels - 1, or tells ErrPolicy and the line that is wrong.
func Read(text string, labels int) ([]Rule, api.Errno, int) {
	if len(text) > api.MaxPolicy {
		return nil, api.ErrPolicy, 0
	}
	if text == "" {
		return nil, api.OK, 0
	}
	var rules []Rule
	for line := range strings.SplitSeq(text, "\n") {
		rule, ok := readRule(line, labels)
		if !ok || len(rules) == api.MaxRules {
			return nil, api.ErrPolicy, len(rules)
		}
		rules = append(rules, rule)
	}
	return rules, api.OK, 0
}

func readRule(line string, labels int) (Rule, bool) {
	// No part of a rule has a blank in it: one too many is left in the action, which then is none.
	patternText, rest, _ := strings.Cut(line, " ")
	labelText, actionText, _ := strings.Cut(rest, " ")
	pattern, patternOK := readPattern(patternText)
	label, labelOK := readLabel(labelText, labels)
	action, actionOK := readAction(actionText)
	if !patternOK || !labelOK || !actionOK {
		return Rule{}, false
	}
	return Rule{Pattern: pattern, Label: label, Action: action}, true
}

func readPattern(text string) ([]Segment, bool) {
	if text == "." {
		return nil, true
	}
	var pattern []Segment
segments:
	for piece := range strings.SplitSeq(text, "/") {
		if len(pattern) == api.MaxSegments {
			return nil, false
		}
		for _, sign := range signs {
			if piece == sign.text {
				pattern = append(pattern, Segment{Kind: sign.kind})
				continue segments
			}
		}
		if !isLiteral(piece) {
			return nil, false
		}
		// Rules may outlive the text, which is not ours to keep.
		pattern = append(pattern, Segment{Kind: KeyStep, Key: strings.Clone(piece)})
	}
	return pattern, true
}

func isLiteral(text string) bool {
	// Ranging alone can't tell wrong bytes from a U+FFFD that is written out.
	if !utf8.ValidString(text) {
		return false
	}
	length := 0
	for _, char := range text {
		if char <= ' ' || strings.ContainsRune("*[]/.", char) {
			return false
		}
		length++
	}
	return length >= 1 && length <= api.MaxLiteral
}

func readLabel(text string, labels int) (int, bool) {
	if len(text) != 1 || text[0] < '0' || text[0] > '9' {
		return 0, false
	}
	label := int(text[0] - '0')
	return label, label < labels
}

func readAction(text string) (int, bool) {
	switch text {
	case "drop":
		return api.Drop, true
	case "mask":
		return api.Mask, true
	case "tag":
		return api.Tag, true
	}
	return 0, false
}
