// Package automaton: the rules of a policy, compiled so that one walk along a path tells which of them speaks of it.
package automaton

import (
	"redact/api"
	"redact/policy"
)

// Start is the state of the path without steps.
const Start = 0

// The letters are all that patterns can tell of a step. The keys that patterns name have letters of their own, from firstKey on.
const (
	otherKey = iota // 0, which is what a map answers for a key that it does not have
	intoList
	firstKey
)

// Automaton goes from state to state by the steps of a path.
type Automaton struct {
	rules    []policy.Rule
	fallback int            // the label of a path that no rule matches
	letters  map[string]int // of the keys that patterns name
	stays    places         // those ahead of a `**`, which a step may leave where they are
	takes    []places       // for each letter, those ahead of one step that it can be
	states   []state
	numbers  map[places]int // of the states
	moves    map[move]int   // those that were asked for
}

// state is what can be known of a path: how far into each pattern it leads, and so its label and its action.
type state struct {
	places        places
	label, action int
}

type move struct{ from, letter int }

// Compile makes the automaton of the rules; fallback is the label of what none of them matches.
func Compile(rules []policy.Rule, fallback int) *Automaton {
	a := &Automaton{
		rules:    rules,
		fallback: fallback,
		letters:  map[string]int{},
		numbers:  map[places]int{},
		moves:    map[move]int{},
	}
	a.nameLetters()
	a.layPatterns()
	a.number(a.start())
	return a
}

// Next tells the state to which a step leads from a state.
func (a *Automaton) Next(from int, step api.Step) int {
	asked := move{from, a.letterOf(step)}
	to, known := a.moves[asked]
	if !known {
		to = a.number(a.after(a.states[from].places, asked.letter))
		a.moves[asked] = to
	}
	return to
}

// Verdict tells the label and the action of the paths that lead to a state.
func (a *Automaton) Verdict(number int) (label, action int) {
	s := a.states[number]
	return s.label, s.action
}

// number tells the number of the state with these places. States are made when a path comes to them, for all that there are may be too many: `**/a/*/*/*/*/*/*` alone tells apart which of the last seven steps were an a.
func (a *Automaton) number(p places) int {
	number, known := a.numbers[p]
	if !known {
		number = len(a.states)
		label, action := a.judge(p)
		a.states = append(a.states, state{p, label, action})
		a.numbers[p] = number
	}
	return number
}

// judge tells the label and the action of the first rule whose pattern is gone through to its end.
func (a *Automaton) judge(p places) (label, action int) {
	for r, rule := range a.rules {
		if p.has(r, len(rule.Pattern)) {
			return rule.Label, rule.Action
		}
	}
	return a.fallback, api.Drop
}
