// Package rewriting: a document as its receiver may see it.
package rewriting

import (
	"redact/api"
	"redact/automaton"
	"redact/labels"
	"redact/things"
)

// mask stands in the place of what is masked.
const mask = things.Text("***")

// Receiver is what a rewriting needs to know of the one that it is for, and of the policy.
type Receiver struct {
	Order     labels.Order
	Clearance int
	Key       int // of the tags
	Rules     *automaton.Automaton
}

// rewriter counts while it walks through a document.
type rewriter struct {
	Receiver
	report api.Report
}

// Document rewrites a document, and tells how much of it is shown and how much is not.
func Document(receiver Receiver, document things.Thing) (things.Thing, api.Report) {
	w := rewriter{Receiver: receiver}
	rewritten, stays := w.rewrite(document, automaton.Start)
	if !stays {
		rewritten = things.Nothing{}
	}
	return rewritten, w.report
}

// rewrite tells what stands in the place of a thing whose path leads to a state; false, if it is left out.
func (w *rewriter) rewrite(t things.Thing, state int) (things.Thing, bool) {
	label, action := w.Rules.Verdict(state)
	if w.Order.AtMost(label, w.Clearance) {
		w.report.Shown++
		return w.show(t, state), true
	}
	switch action {
	case api.Mask:
		w.report.Masked++
		return mask, true
	case api.Tag:
		w.report.Tagged++
		return tagOf(w.Key, label, t), true
	}
	w.report.Dropped++
	return nil, false
}

// show rewrites what is in a thing that is shown itself.
func (w *rewriter) show(t things.Thing, state int) things.Thing {
	switch t := t.(type) {
	case things.List:
		return w.showList(t, state)
	case things.Map:
		return w.showMap(t, state)
	}
	return t
}

func (w *rewriter) showList(list things.List, state int) things.List {
	var shown things.List
	inner := w.Rules.Next(state, api.Step{Index: true})
	for _, t := range list {
		if rewritten, stays := w.rewrite(t, inner); stays {
			shown = append(shown, rewritten)
		}
	}
	return shown
}

func (w *rewriter) showMap(entries things.Map, state int) things.Map {
	var shown things.Map
	for _, entry := range entries {
		inner := w.Rules.Next(state, api.Step{Key: entry.Key})
		if rewritten, stays := w.rewrite(entry.Thing, inner); stays {
			shown = append(shown, things.Entry{Key: entry.Key, Thing: rewritten})
		}
	}
	return shown
}
