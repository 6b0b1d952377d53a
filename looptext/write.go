package looptext

import (
	"looptext/api"
	"looptext/graph"
)

// labelled is which nodes of a graph have a label in a mode.
func labelled(nodes []api.Node, mode int, walk graph.Walk) []bool {
	has := make([]bool, len(nodes))
	for i := range nodes {
		switch mode {
		case api.Cycles:
			has[i] = walk.Within[i]
		case api.Shared:
			has[i] = walk.Met[i] > 1 && canBeShared(nodes[i].Kind)
		}
	}
	return has
}

// canBeShared holds for the kinds of which one node stands in several places.
func canBeShared(kind int) bool {
	return kind == api.Pair || kind == api.Vector || kind == api.Text
}
