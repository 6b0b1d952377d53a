package graph

import (
	"slices"

	"looptext/api"
)

// Walk is what one meets going through a graph in order, each node gone
// through once.
type Walk struct {
	Met    []int  // how often a node is met: 0, if it is not reached
	Within []bool // whether a node is met again while one is still within it
}

// Through goes through a graph that is right, from the root on.
func Through(nodes []api.Node) Walk {
	w := walker{
		nodes: nodes,
		open:  make([]bool, len(nodes)),
		walk:  Walk{Met: make([]int, len(nodes)), Within: make([]bool, len(nodes))},
	}
	w.meet(0)
	return w.walk
}

// Loops holds if something that is reached holds itself. Wherever one goes
// round, some node is met again from within.
func (w Walk) Loops() bool { return slices.Contains(w.Within, true) }

type walker struct {
	nodes []api.Node
	open  []bool // those that one is within now
	walk  Walk
}

func (w *walker) meet(at int) {
	w.walk.Met[at]++
	if w.walk.Met[at] > 1 {
		w.walk.Within[at] = w.walk.Within[at] || w.open[at]
		return
	}
	w.open[at] = true
	for _, sub := range w.nodes[at].Subs {
		w.meet(sub)
	}
	w.open[at] = false
}
