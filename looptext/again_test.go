package looptext

import (
	"math/rand/v2"
	"regexp"
	"slices"
	"strconv"
	"testing"

	"looptext/api"
)

// P9: what Write gives is read again; and P8, by what the document says of the
// labels, for all small graphs and many greater ones.

func TestAllSmallGraphs(t *testing.T) {
	choices := []api.Node{none, text("t"), symbol("a")}
	for a := range 3 {
		choices = append(choices, vector(a))
		for b := range 3 {
			choices = append(choices, pair(a, b), vector(a, b))
		}
	}
	for _, x := range choices {
		for _, y := range choices {
			for _, z := range choices {
				isReadAgain(t, list(x, y, z))
			}
		}
		if t.Failed() {
			return
		}
	}
}

func TestMixedGraphs(t *testing.T) {
	source := rand.New(rand.NewPCG(3, 4))
	for range 30000 {
		isReadAgain(t, anyGraph(source, 1+source.IntN(9)))
		if t.Failed() {
			return
		}
	}
}

// anyGraph is a graph of so many nodes, most of which hold others.
func anyGraph(source *rand.Rand, many int) []api.Node {
	atoms := list(none, none, text("t"), text("\"\\\n\t\xff"), symbol("quote"), symbol("..."), number(-1, 2), number(7, 1), truth(0), truth(1), char(0), char(')'))
	nodes := make([]api.Node, many)
	for i := range nodes {
		switch source.IntN(5) {
		case 0, 1, 2:
			nodes[i] = pair(source.IntN(many), source.IntN(many))
		case 3:
			subs := make([]int, source.IntN(4))
			for k := range subs {
				subs[k] = source.IntN(many)
			}
			nodes[i] = vector(subs...)
		default:
			nodes[i] = atoms[source.IntN(len(atoms))]
		}
	}
	return nodes
}

func isReadAgain(t *testing.T, nodes []api.Node) {
	t.Helper()
	in := inOrder(nodes)
	hasLabels(t, nodes, api.Shared, leadTwice(nodes))
	hasLabels(t, nodes, api.Cycles, metFromWithin(nodes))
	if len(metFromWithin(nodes)) > 0 {
		refuses(t, nodes, api.Simple, api.ErrCycle)
	}
	for _, mode := range modes {
		written, errno := Write(nodes, mode)
		if errno != api.OK {
			continue
		}
		back := graphOf(t, written)
		switch {
		case mode == api.Shared && told(back) != told(in):
			t.Errorf("%s is written in Shared as %s, and read as %s", told(nodes), written, told(back))
		case !unfoldAlike(nodes, back):
			t.Errorf("%s is written in mode %d as %s, and read as %s", told(nodes), mode, written, told(back))
		case mode == api.Simple && len(leadTwice(back)) > 0:
			t.Errorf("%s is written in Simple as %s, which is no tree", told(nodes), written)
		}
		writes(t, back, mode, written)
		writes(t, in, mode, written)
	}
}

// inOrder is the same graph, in order.
func inOrder(nodes []api.Node) []api.Node {
	var out []api.Node
	numbers := map[int]int{}
	var meet func(at int) int
	meet = func(at int) int {
		if number, met := numbers[at]; met {
			return number
		}
		number, n := len(out), nodes[at]
		out = append(out, n)
		if n.Kind == api.Pair || n.Kind == api.Vector || n.Kind == api.Text {
			numbers[at] = number
		}
		subs := make([]int, len(n.Subs))
		for i, sub := range n.Subs {
			subs[i] = meet(sub)
		}
		out[number].Subs = subs
		return number
	}
	meet(0)
	return out
}

// unfoldAlike holds if no way down from the roots tells two graphs apart.
func unfoldAlike(a, b []api.Node) bool {
	type both struct{ a, b int }
	seen := map[both]int{}
	var alike func(at both) bool
	alike = func(at both) bool {
		seen[at]++
		x, y := a[at.a], b[at.b]
		if x.Kind != y.Kind || x.Text != y.Text || x.N != y.N || x.D != y.D || len(x.Subs) != len(y.Subs) {
			return false
		}
		for i := range x.Subs {
			next := both{x.Subs[i], y.Subs[i]}
			if seen[next] == 0 && !alike(next) {
				return false
			}
		}
		return true
	}
	return alike(both{0, 0})
}

// leadTwice is the nodes that have a label in Shared.
func leadTwice(nodes []api.Node) []int {
	reached := []int{0}
	lead := map[int]int{0: 1}
	for i := 0; i < len(reached); i++ {
		for _, sub := range nodes[reached[i]].Subs {
			lead[sub]++
			if !slices.Contains(reached, sub) {
				reached = append(reached, sub)
			}
		}
	}
	var out []int
	for _, at := range reached {
		if kind := nodes[at].Kind; lead[at] > 1 && (kind == api.Pair || kind == api.Vector || kind == api.Text) {
			out = append(out, at)
		}
	}
	return out
}

// metFromWithin is the nodes that have a label in Cycles.
func metFromWithin(nodes []api.Node) []int {
	var gone, out []int
	var meet func(at int, way []int)
	meet = func(at int, way []int) {
		if slices.Contains(way, at) && !slices.Contains(out, at) {
			out = append(out, at)
		}
		if slices.Contains(gone, at) {
			return
		}
		gone = append(gone, at)
		for _, sub := range nodes[at].Subs {
			meet(sub, append(slices.Clone(way), at))
		}
	}
	meet(0, nil)
	return out
}

var labelPut = regexp.MustCompile(`#(\d+)=`)

// hasLabels asks for as many labels as there are nodes that have one, put in
// the order of their numbers.
func hasLabels(t *testing.T, nodes []api.Node, mode int, want []int) {
	t.Helper()
	written, errno := Write(nodes, mode)
	if errno == api.ErrLong {
		return
	}
	put := labelPut.FindAllStringSubmatch(written, -1)
	if errno != api.OK || len(put) != len(want) {
		t.Errorf("Write of %s in mode %d = %s, error %d; want labels for %v", told(nodes), mode, written, errno, want)
	}
	for i, p := range put {
		if p[1] != strconv.Itoa(i) {
			t.Errorf("Write of %s in mode %d = %s: label %s is put as number %d", told(nodes), mode, written, p[1], i)
		}
	}
}

// What is read and is in order is given back by what is written in Shared.
func TestTextsThatAreReadAgain(t *testing.T) {
	for _, given := range []string{manyThings, "a", "'(a . b)", "#0=(#1=(#2=(#0# #1# #2#) . #1#) . #2#)", "(#0=\"t\" #(#0# #1=(#0#)) . #1#)", "#\\space", "\"\\\\\\\"\\n\\t\r\x00\"", "(((((((((())))))))))", "#(#(#()))"} {
		nodes := graphOf(t, given)
		written, errno := Write(nodes, api.Shared)
		if errno != api.OK || told(graphOf(t, written)) != told(nodes) {
			t.Errorf("%s is written as %s, error %d", given, written, errno)
		}
	}
}

// Too deep or too many, a text of Write is not read again; but it is written.
func TestWrittenButNotRead(t *testing.T) {
	var nest []api.Node
	for i := range 31 {
		nest = append(nest, vector(i+1))
	}
	written, _ := Write(append(nest, none), api.Shared)
	fails(t, written, api.MaxDepth, api.ErrDeep, 60)
	wide := list(vector(1, 1, 1, 1, 1, 1, 1, 1), vector(2, 2, 2, 2, 2, 2, 2, 2, 2, 2, 2, 2, 2, 2, 2, 2, 2, 2, 2, 2), symbol("a"))
	written, _ = Write(wide, api.Simple)
	fails(t, written, api.MaxDepth, api.ErrLong, 0)
}
