// Package looptext: parenthesised texts in which things can hold themselves: see DOC.md.
package looptext

import (
	"looptext/api"
	"looptext/datum"
	"looptext/graph"
	"looptext/reckon"
	"looptext/token"
	"looptext/writer"
)

// Read reads the first datum of a text (P3 to P6).
func Read(text string, depth int) ([]api.Node, int, api.Errno) {
	if depth < 0 || depth > api.MaxDepth {
		return nil, 0, api.ErrArg
	}
	found, fault := read(text, depth)
	if fault != nil {
		return nil, fault.At, fault.Errno
	}
	return found.nodes, found.end, api.OK
}

// Write writes a graph (P7 to P9).
func Write(nodes []api.Node, mode int) (string, api.Errno) {
	if mode != api.Simple && mode != api.Cycles && mode != api.Shared {
		return "", api.ErrArg
	}
	if !graph.Right(nodes) {
		return "", api.ErrGraph
	}
	walk := graph.Through(nodes)
	if mode == api.Simple && walk.Loops() {
		return "", api.ErrCycle
	}
	text, fits := writer.Write(nodes, labelled(nodes, mode, walk))
	if !fits {
		return "", api.ErrLong
	}
	return text, api.OK
}

// Reckon reckons a text (P10).
func Reckon(text string) (string, api.Errno) {
	found, fault := read(text, api.MaxDepth)
	if fault != nil {
		return "", fault.Errno
	}
	if !token.NothingFrom(text, found.end) {
		return "", api.ErrText
	}
	if graph.Through(found.nodes).Loops() {
		return "", api.ErrCycle
	}
	result, errno := reckon.Reckon(found.root)
	if errno != api.OK {
		return "", errno
	}
	return Write(datum.Graph(result), api.Simple)
}
