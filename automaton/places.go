package automaton

import (
	"redact/api"
	"redact/policy"
)

// places is a set of places in the patterns: the bit n of the rule r stands for the place behind the first n segments of the rule's pattern.
type places [api.MaxRules]uint16

func (p *places) add(rule, place int) { p[rule] |= 1 << place }

func (p places) has(rule, place int) bool { return p[rule]>>place&1 == 1 }

// start is the set for the path without steps.
func (a *Automaton) start() places {
	var p places
	for rule := range a.rules {
		p.add(rule, 0)
	}
	return a.widened(p)
}

// after is the set for a path that is one step longer.
func (a *Automaton) after(p places, letter int) places {
	var next places
	for rule := range a.rules {
		next[rule] = p[rule]&a.stays[rule] | (p[rule]&a.takes[letter][rule])<<1
	}
	return a.widened(next)
}

// widened goes on behind each `**`, which may stand for no step, until that leads no further.
func (a *Automaton) widened(p places) places {
	for {
		wider := p
		for rule := range a.rules {
			wider[rule] |= (p[rule] & a.stays[rule]) << 1
		}
		if wider == p {
			return p
		}
		p = wider
	}
}

func (a *Automaton) nameLetters() {
	for _, rule := range a.rules {
		for _, segment := range rule.Pattern {
			if segment.Kind == policy.KeyStep && a.letters[segment.Key] == otherKey {
				letter := firstKey + len(a.letters)
				a.letters[segment.Key] = letter
			}
		}
	}
}

func (a *Automaton) letterOf(step api.Step) int {
	if step.Index {
		return intoList
	}
	return a.letters[step.Key]
}

// layPatterns notes which places each letter leads on from.
func (a *Automaton) layPatterns() {
	a.takes = make([]places, firstKey+len(a.letters))
	for r, rule := range a.rules {
		for place, segment := range rule.Pattern {
			switch segment.Kind {
			case policy.AnyStep:
				for letter := range a.takes {
					a.takes[letter].add(r, place)
				}
			case policy.AnySteps:
				a.stays.add(r, place)
			case policy.ListStep:
				a.takes[intoList].add(r, place)
			case policy.KeyStep:
				a.takes[a.letters[segment.Key]].add(r, place)
			}
		}
	}
}
