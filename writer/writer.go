// Package writer writes graphs as texts.
package writer

import (
	"strconv"
	"strings"

	"looptext/api"
)

// unwritten marks a label that has no number yet.
const unwritten = -1

type writer struct {
	nodes    []api.Node
	labelled []bool // which nodes have a label
	labels   []int  // the numbers of those that were written
	next     int    // the next label's number
	out      strings.Builder
	long     bool // it is longer than a text may be
}

// Write is the text of a graph, in which the nodes that are labelled have a
// label; false if it would be longer than a text may be. The graph is right,
// and in each round of it there is a label.
func Write(nodes []api.Node, labelled []bool) (string, bool) {
	w := &writer{nodes: nodes, labelled: labelled, labels: make([]int, len(nodes))}
	for i := range w.labels {
		w.labels[i] = unwritten
	}
	w.node(0)
	if w.long {
		return "", false
	}
	return w.out.String(), true
}

// add refuses what is too long ahead of copying it: a symbol has any length.
func (w *writer) add(piece string) {
	if len(piece) > api.MaxText-w.out.Len() {
		w.long = true
	}
	if !w.long {
		w.out.WriteString(piece)
	}
}

func (w *writer) node(at int) {
	// Written as often as they stand there, things can be too many to go on.
	if w.long {
		return
	}
	if w.labels[at] != unwritten {
		w.add("#" + strconv.Itoa(w.labels[at]) + "#")
		return
	}
	if w.labelled[at] {
		w.put(at)
	}
	switch n := w.nodes[at]; n.Kind {
	case api.Pair:
		w.pair(n)
	case api.Vector:
		w.vector(n)
	default:
		w.add(atom(n))
	}
}

func (w *writer) put(at int) {
	w.labels[at] = w.next
	w.next++
	w.add("#" + strconv.Itoa(w.labels[at]) + "=")
}

func (w *writer) vector(n api.Node) {
	w.add("#(")
	for i, sub := range n.Subs {
		if i > 0 {
			w.add(" ")
		}
		w.node(sub)
	}
	w.add(")")
}

func (w *writer) pair(n api.Node) {
	w.add("(")
	w.node(n.Subs[0])
	rest := n.Subs[1]
	for w.nodes[rest].Kind == api.Pair && !w.labelled[rest] {
		w.add(" ")
		w.node(w.nodes[rest].Subs[0])
		rest = w.nodes[rest].Subs[1]
	}
	if w.nodes[rest].Kind != api.Nil {
		w.add(" . ")
		w.node(rest)
	}
	w.add(")")
}
