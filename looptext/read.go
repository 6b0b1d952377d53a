package looptext

import (
	"looptext/api"
	"looptext/datum"
	"looptext/token"
)

// reading is the first datum of a text, as it is and as a graph, and the place
// behind it.
type reading struct {
	root  datum.Datum
	nodes []api.Node
	end   int
}

// read reads the first datum of a text, at a depth that may be.
func read(text string, depth int) (reading, *datum.Fault) {
	if len(text) > api.MaxText {
		return reading{}, &datum.Fault{Errno: api.ErrLong, At: 0}
	}
	root, end, fault := datum.Read(token.Gather(text), depth)
	if fault != nil {
		return reading{}, fault
	}
	nodes := datum.Graph(root)
	if len(nodes) > api.MaxNodes {
		return reading{}, &datum.Fault{Errno: api.ErrLong, At: 0}
	}
	return reading{root, nodes, end}, nil
}
