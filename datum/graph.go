package datum

import (
	"strings"

	"looptext/api"
)

// graph is what was numbered so far.
type graph struct {
	nodes []api.Node
	met   map[Datum]int // pairs, vectors and texts
}

// Graph is the graph of a datum, in order.
func Graph(root Datum) []api.Node {
	g := &graph{met: map[Datum]int{}}
	g.number(root)
	return g.nodes
}

// number is the number of the node for d at the place where it is met now.
func (g *graph) number(d Datum) int {
	switch x := Meant(d).(type) {
	case *Pair:
		return g.holder(x, api.Pair, []Datum{x.First, x.Rest})
	case *Vector:
		return g.holder(x, api.Vector, x.Data)
	case *Text:
		return g.text(x)
	case Symbol:
		// A copy, because the name is a piece of the text that was handed in.
		return g.add(api.Node{Kind: api.Symbol, Text: strings.Clone(x.Name)})
	case Number:
		return g.add(api.Node{Kind: api.Number, N: x.N, D: x.D})
	case Truth:
		return g.add(api.Node{Kind: api.Truth, N: x.N})
	case Char:
		return g.add(api.Node{Kind: api.Char, N: x.Code})
	}
	return g.add(api.Node{Kind: api.Nil})
}

func (g *graph) add(n api.Node) int {
	g.nodes = append(g.nodes, n)
	return len(g.nodes) - 1
}

// holder numbers d ahead of what it holds, because that may be d again.
func (g *graph) holder(d Datum, kind int, held []Datum) int {
	if at, ok := g.met[d]; ok {
		return at
	}
	at := g.add(api.Node{Kind: kind})
	g.met[d] = at
	subs := make([]int, len(held))
	for i, x := range held {
		subs[i] = g.number(x)
	}
	g.nodes[at].Subs = subs
	return at
}

func (g *graph) text(x *Text) int {
	if at, ok := g.met[x]; ok {
		return at
	}
	at := g.add(api.Node{Kind: api.Text, Text: x.Bytes})
	g.met[x] = at
	return at
}
