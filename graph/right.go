// Package graph: which nodes are a graph, and what going through it meets.
package graph

import (
	"looptext/api"
	"looptext/ratio"
	"looptext/token"
)

// Right holds if nodes are a graph. Those that are not reached count, too.
func Right(nodes []api.Node) bool {
	if len(nodes) < 1 || len(nodes) > api.MaxNodes {
		return false
	}
	for _, n := range nodes {
		if !rightKind(n) || !rightSubs(n.Subs, len(nodes)) {
			return false
		}
	}
	return true
}

// rightKind holds if a node has just what belongs to its kind.
func rightKind(n api.Node) bool {
	switch n.Kind {
	case api.Nil:
		return bare(n.Text, n.N, n.D, n.Subs)
	case api.Pair:
		return len(n.Subs) == 2 && bare(n.Text, n.N, n.D, nil)
	case api.Vector:
		return len(n.Subs) <= api.MaxSubs && bare(n.Text, n.N, n.D, nil)
	case api.Text:
		return len(n.Text) <= api.MaxText && bare("", n.N, n.D, n.Subs)
	case api.Symbol:
		return bare("", n.N, n.D, n.Subs) && token.IsSymbol(n.Text)
	case api.Number:
		return rightNumber(n.N, n.D) && bare(n.Text, 0, 0, n.Subs)
	case api.Truth:
		return (n.N == 0 || n.N == 1) && bare(n.Text, 0, n.D, n.Subs)
	case api.Char:
		return token.IsChar(n.N) && bare(n.Text, 0, n.D, n.Subs)
	}
	return false
}

// bare holds if there is nothing in what does not belong to a node.
func bare(text string, n, d int, subs []int) bool {
	return text == "" && n == 0 && d == 0 && len(subs) == 0
}

func rightNumber(n, d int) bool {
	if d < 1 || d > api.MaxNumber || n < -api.MaxNumber || n > api.MaxNumber {
		return false
	}
	_, lowest := ratio.Lowest(n, d)
	return lowest == d
}

// rightSubs holds if all are numbers of nodes that there are.
func rightSubs(subs []int, there int) bool {
	for _, sub := range subs {
		if sub < 0 || sub >= there {
			return false
		}
	}
	return true
}
