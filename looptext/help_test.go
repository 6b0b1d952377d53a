package looptext

import (
	"fmt"
	"slices"
	"strings"
	"testing"

	"looptext/api"
)

// told is a graph as text, each node with all that it has.
func told(nodes []api.Node) string {
	var out []string
	for _, n := range nodes {
		s := []string{"nil", "pair", "vector", "text", "symbol", "number", "truth", "char"}[n.Kind]
		if n.Text != "" || n.Kind == api.Text {
			s += fmt.Sprintf("%q", n.Text)
		}
		if n.N != 0 || n.D != 0 || n.Kind > api.Symbol {
			s += fmt.Sprintf(":%d/%d", n.N, n.D)
		}
		if len(n.Subs) > 0 {
			s += fmt.Sprint(n.Subs)
		}
		out = append(out, s)
	}
	return strings.Join(out, " ")
}

// reads asks for a graph and how many bytes were read.
func reads(t *testing.T, text string, depth int, want string, end int) {
	t.Helper()
	nodes, at, errno := Read(text, depth)
	if errno != api.OK || at != end || told(nodes) != want {
		t.Errorf("Read(%.60q, %d) = %s, %d, error %d; want %s, %d", text, depth, told(nodes), at, errno, want, end)
	}
}

// readsAll asks for a graph that is read from all of the text.
func readsAll(t *testing.T, text, want string) {
	t.Helper()
	reads(t, text, api.MaxDepth, want, len(text))
}

// fails asks for an error, its place, and nothing else.
func fails(t *testing.T, text string, depth int, want api.Errno, place int) {
	t.Helper()
	nodes, at, errno := Read(text, depth)
	if errno != want || at != place || nodes != nil {
		t.Errorf("Read(%.60q, %d) = %d nodes, %d, error %d; want error %d at %d", text, depth, len(nodes), at, errno, want, place)
	}
}

// disorder tells why nodes are no graph in order, or nothing if they are one.
func disorder(nodes []api.Node) string {
	if len(nodes) < 1 || len(nodes) > api.MaxNodes {
		return fmt.Sprint(len(nodes), " nodes")
	}
	for i, n := range nodes {
		if !rightNode(n) {
			return fmt.Sprintf("node %d is %+v", i, n)
		}
	}
	met := 0
	seen := make([]bool, len(nodes))
	why := ""
	var meet func(at int)
	meet = func(at int) {
		switch {
		case at < 0 || at >= len(nodes):
			why = fmt.Sprint("there is no node ", at)
		case seen[at] && nodes[at].Kind != api.Pair && nodes[at].Kind != api.Vector && nodes[at].Kind != api.Text:
			why = fmt.Sprint("met twice: ", at)
		case !seen[at] && at != met:
			why = fmt.Sprintf("node %d is met as number %d", at, met)
		case !seen[at]:
			seen[at] = true
			met++
			for _, sub := range nodes[at].Subs {
				meet(sub)
			}
		}
	}
	meet(0)
	if why == "" && met != len(nodes) {
		return fmt.Sprintf("%d of %d nodes are reached", met, len(nodes))
	}
	return why
}

// rightNode holds if a node has just what belongs to its kind.
func rightNode(n api.Node) bool {
	bare := api.Node{Kind: n.Kind}
	right := false
	switch n.Kind {
	case api.Nil:
		right = true
	case api.Pair:
		right, bare.Subs = len(n.Subs) == 2, n.Subs
	case api.Vector:
		right, bare.Subs = len(n.Subs) <= api.MaxSubs, n.Subs
	case api.Text:
		right, bare.Text = len(n.Text) <= api.MaxText, n.Text
	case api.Symbol:
		right, bare.Text = n.Text != "" && n.Text != ".", n.Text
	case api.Number:
		right, bare.N, bare.D = rightNumber(n.N, n.D), n.N, n.D
	case api.Truth:
		right, bare.N = n.N == 0 || n.N == 1, n.N
	case api.Char:
		right, bare.N = n.N >= 33 && n.N <= 126 || slices.Contains([]int{32, 10, 9, 0, 127, 27}, n.N), n.N
	}
	return right && n.Text == bare.Text && n.N == bare.N && n.D == bare.D && slices.Equal(n.Subs, bare.Subs)
}

func rightNumber(n, d int) bool {
	if d < 1 || d > api.MaxNumber || n < -api.MaxNumber || n > api.MaxNumber {
		return false
	}
	a, b := d, n
	for b != 0 {
		a, b = b, a%b
	}
	return a == 1 || a == -1
}
