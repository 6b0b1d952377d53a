package looptext

import (
	"math"
	"strings"
	"testing"

	"looptext/api"
)

// P7, and the section Graphs: what is no graph.

// wrongNodes have not just what belongs to their kinds, whatever the others
// are (there are at least two nodes).
func wrongNodes() []api.Node {
	wrong := []api.Node{
		{Kind: -1}, {Kind: 8}, {Kind: math.MinInt}, {Kind: math.MaxInt}, {Kind: 1 << 32},
		pair(0, -1), pair(-1, 0), pair(0, math.MaxInt), pair(math.MinInt, 0),
		{Kind: api.Pair}, {Kind: api.Pair, Subs: []int{0}}, {Kind: api.Pair, Subs: []int{0, 0, 0}},
		vector(-1), vector(0, 0, math.MaxInt), vector(math.MinInt, 0), {Kind: api.Vector, Subs: make([]int, 21)}, {Kind: api.Vector, Subs: make([]int, 1<<20)},
		text(strings.Repeat("x", 401)), text(strings.Repeat("x", 1<<20)),
		number(1, 0), number(0, 0), number(0, 2), number(0, -1), number(1, -1), number(-1, -1), number(2, 2), number(2, 4), number(-2, 4), number(6, 4), number(1000000, 1000000), number(999999, 3),
		number(1000001, 1), number(-1000001, 1), number(1, 1000001), number(math.MaxInt, 1), number(math.MinInt, 1), number(1, math.MaxInt), number(1, math.MinInt), number(math.MinInt, math.MinInt), number(math.MinInt, -1),
		truth(2), truth(-1), truth(math.MaxInt), truth(math.MinInt), truth(256),
		char(-1), char(1), char(8), char(11), char(26), char(28), char(31), char(128), char(255), char(256 + 65), char(math.MinInt), char(math.MaxInt),
	}
	for _, s := range []string{"", ".", "1", "12a", "+1", "-1", "-1a", "+1/2", "1/2", "0x", "a b", " a", "a ", "a\n", "\ta", "a;", ";", "#t", "#", "a#", "(", "a)", "()", "'a", "\"a\"", "a\\", "|", "a,", "a:", "[", "é", "a\x00", "\x00", "\xff", "a\x80", "@", "`", "{", "a^", "~"} {
		wrong = append(wrong, symbol(s))
	}
	wrong = append(wrong, symbol(strings.Repeat("a", 1<<20)+" "), symbol(strings.Repeat("1", 1<<20)))
	return append(wrong, tooMuch()...)
}

// tooMuch is right nodes, each with one thing more that does not belong to it.
func tooMuch() []api.Node {
	var wrong []api.Node
	for _, right := range []api.Node{none, pair(0, 0), vector(), vector(0), text(""), text("t"), symbol("a"), number(0, 1), number(1, 2), truth(0), truth(1), char(0), char('a')} {
		more := right
		if right.Kind != api.Text && right.Kind != api.Symbol {
			more.Text = "x"
			wrong = append(wrong, more)
		}
		more = right
		if right.Kind != api.Pair && right.Kind != api.Vector {
			more.Subs = []int{0}
			wrong = append(wrong, more)
		}
		if right.Kind == api.Number {
			continue
		}
		for _, worth := range []int{1, -1, math.MinInt} {
			more = right
			more.D = worth
			wrong = append(wrong, more)
			more = right
			more.N = worth
			if right.Kind != api.Truth && right.Kind != api.Char {
				wrong = append(wrong, more)
			}
		}
	}
	return wrong
}

func TestNoGraphs(t *testing.T) {
	refusesAlways(t, nil, api.ErrGraph)
	refusesAlways(t, list(), api.ErrGraph)
	refusesAlways(t, make([]api.Node, 0, 9), api.ErrGraph)
	refusesAlways(t, make([]api.Node, 151), api.ErrGraph)
	refusesAlways(t, make([]api.Node, 1<<20), api.ErrGraph)
	for _, n := range wrongNodes() {
		refusesAlways(t, list(n, none), api.ErrGraph)
		refusesAlways(t, list(pair(1, 1), n), api.ErrGraph)
		refusesAlways(t, list(pair(0, 0), none, n), api.ErrGraph)
	}
}

// Right nodes are told as such, so that no wrong one is wrong by chance.
func TestGraphsAtTheEdges(t *testing.T) {
	for _, n := range []api.Node{
		none, pair(0, 1), vector(), vector(make([]int, 20)...), text(""), text(strings.Repeat("x", 400)), number(-1000000, 1), number(1000000, 1), number(1, 1000000), number(-999999, 1000000),
		truth(0), truth(1), char(0), char(9), char(10), char(27), char(32), char(33), char(126), char(127),
		symbol("+"), symbol("-"), symbol(".."), symbol("+."), symbol("-a1"), symbol("+-1"), symbol(".1"), symbol("a.b"), symbol(strings.Repeat("a", 1<<20)),
		{Kind: api.Nil, Subs: []int{}}, {Kind: api.Symbol, Text: "a", Subs: []int{}}, {Kind: api.Vector, Subs: []int{}},
	} {
		writesAlike(t, list(symbol("a"), n), "a")
	}
	last := append(list(pair(149, 149)), make([]api.Node, 149)...)
	writesAlike(t, last, "(())")
	last[0] = pair(149, 150)
	refusesAlways(t, last, api.ErrGraph)
	refusesAlways(t, last[:149], api.ErrGraph)
}
