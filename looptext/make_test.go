package looptext

import (
	"fmt"
	"testing"

	"looptext/api"
)

// Short ways to make nodes, and to ask what Write answers.

func pair(first, rest int) api.Node { return api.Node{Kind: api.Pair, Subs: []int{first, rest}} }

func vector(subs ...int) api.Node { return api.Node{Kind: api.Vector, Subs: subs} }

func text(s string) api.Node { return api.Node{Kind: api.Text, Text: s} }

func symbol(s string) api.Node { return api.Node{Kind: api.Symbol, Text: s} }

func number(n, d int) api.Node { return api.Node{Kind: api.Number, N: n, D: d} }

func truth(n int) api.Node { return api.Node{Kind: api.Truth, N: n} }

func char(n int) api.Node { return api.Node{Kind: api.Char, N: n} }

func list(nodes ...api.Node) []api.Node { return nodes }

var none api.Node // Nil

// modes are all that there are.
var modes = []int{api.Simple, api.Cycles, api.Shared}

// writes asks for the text of a graph in one mode.
func writes(t *testing.T, nodes []api.Node, mode int, want string) {
	t.Helper()
	if got, errno := Write(nodes, mode); got != want || errno != api.OK {
		t.Errorf("Write of %.80s in mode %d = %.80s, error %d; want %.80s", told(nodes), mode, got, errno, want)
	}
}

// writesAlike asks for the same text in every mode.
func writesAlike(t *testing.T, nodes []api.Node, want string) {
	t.Helper()
	for _, mode := range modes {
		writes(t, nodes, mode, want)
	}
}

// refuses asks for an error and nothing else.
func refuses(t *testing.T, nodes []api.Node, mode int, want api.Errno) {
	t.Helper()
	if got, errno := Write(nodes, mode); got != "" || errno != want {
		t.Errorf("Write of %.200s in mode %d = %.80s, error %d; want error %d", fmt.Sprint(nodes), mode, got, errno, want)
	}
}

// refusesAlways asks for the same error in every mode.
func refusesAlways(t *testing.T, nodes []api.Node, want api.Errno) {
	t.Helper()
	for _, mode := range modes {
		refuses(t, nodes, mode, want)
	}
}

// graphOf is the graph that is read from a text.
func graphOf(t *testing.T, text string) []api.Node {
	t.Helper()
	nodes, end, errno := Read(text, api.MaxDepth)
	if errno != api.OK || end != len(text) {
		t.Fatalf("Read(%q) = %d bytes, error %d", text, end, errno)
	}
	return nodes
}
