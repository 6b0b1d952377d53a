package looptext

import (
	"math"
	"math/rand/v2"
	"slices"
	"strings"
	"sync"
	"testing"
	"unsafe"

	"looptext/api"
)

// P1 and P2, as far as Write goes.

// Each holds the next one twice or more: written as often as they stand there,
// they would be more than anyone could write.
func TestWriteEndsOnGreatTrees(t *testing.T) {
	double, wide, firsts := make([]api.Node, 150), make([]api.Node, 150), make([]api.Node, 150)
	for i := range 149 {
		double[i] = pair(i+1, i+1)
		subs := make([]int, 20)
		for k := range subs {
			subs[k] = i + 1
		}
		wide[i] = vector(subs...)
		firsts[i] = pair(i+1, 149)
	}
	refusesAlways(t, double, api.ErrLong)
	refusesAlways(t, wide, api.ErrLong)
	writesAlike(t, firsts, strings.Repeat("(", 149)+"()"+strings.Repeat(")", 149))
	// The last one leads back to the root, so that all hold themselves.
	double[149], wide[149] = pair(0, 0), vector(0)
	for _, nodes := range [][]api.Node{double, wide} {
		refuses(t, nodes, api.Simple, api.ErrCycle)
		refuses(t, nodes, api.Cycles, api.ErrLong)
		refuses(t, nodes, api.Shared, api.ErrLong)
	}
	firsts[149] = firsts[0]
	refuses(t, firsts, api.Simple, api.ErrCycle)
}

func TestWriteEndsOnLongRounds(t *testing.T) {
	round := make([]api.Node, 150)
	for i := range round {
		round[i] = pair(i, (i+1)%150)
	}
	refuses(t, round, api.Simple, api.ErrCycle)
	refuses(t, round, api.Cycles, api.ErrLong)
	refuses(t, round, api.Shared, api.ErrLong)
	for i := range round {
		round[i] = vector((i + 1) % 150)
	}
	refuses(t, round, api.Cycles, api.ErrLong)
	for i := range 100 {
		round[i] = vector((i + 1) % 100)
	}
	want := "#0=" + strings.Repeat("#(", 100) + "#0#" + strings.Repeat(")", 100)
	writes(t, round[:100], api.Cycles, want)
	writes(t, round[:100], api.Shared, want)
}

// Whatever the numbers are, there is an answer, and it is the one that belongs
// to the nodes.
func TestWriteOfAnyNumbers(t *testing.T) {
	numbers := []int{0, 1, 2, 3, -1, 20, 149, 150, 255, 256, 999999, 1000000, 1000001, -1000000, -1000001, math.MaxInt, math.MinInt, math.MaxInt32, math.MinInt32, 1 << 32}
	texts := []string{"", "a", ".", "1", "a b", "\x00", "\xff", strings.Repeat("a", 401)}
	source := rand.New(rand.NewPCG(5, 6))
	some := func() int { return numbers[source.IntN(len(numbers))] }
	for range 40000 {
		nodes := make([]api.Node, source.IntN(4))
		right := len(nodes) > 0
		for i := range nodes {
			nodes[i] = api.Node{Kind: source.IntN(9) - source.IntN(2), N: some() * source.IntN(2), D: some() * source.IntN(2), Text: texts[source.IntN(len(texts))*source.IntN(2)]}
			for range source.IntN(4) {
				nodes[i].Subs = append(nodes[i].Subs, some()*source.IntN(2))
			}
			right = right && isRight(nodes[i], len(nodes))
		}
		mode := some() * source.IntN(2)
		got, errno := Write(nodes, mode)
		switch {
		case mode < 0 || mode > 2:
			refuses(t, nodes, mode, api.ErrArg)
		case !right:
			refuses(t, nodes, mode, api.ErrGraph)
		case errno == api.ErrArg || errno == api.ErrGraph || errno != api.OK && got != "":
			t.Errorf("Write of %v in mode %d = %.60q, error %d", nodes, mode, got, errno)
		}
	}
}

func isRight(n api.Node, many int) bool {
	if n.Kind == api.Symbol && n.Text != "a" && n.Text != strings.Repeat("a", 401) {
		return false
	}
	return rightNode(n) && !slices.ContainsFunc(n.Subs, func(sub int) bool { return sub < 0 || sub >= many })
}

// withRoom is a graph with spare room behind its lists, each with a mark in it.
func withRoom(nodes []api.Node) []api.Node {
	out := make([]api.Node, 0, len(nodes)+5)
	for _, n := range nodes {
		subs := append(make([]int, 0, len(n.Subs)+5), n.Subs...)
		for i := len(subs); i < cap(subs); i++ {
			subs[:cap(subs)][i] = -77
		}
		n.Subs = subs
		out = append(out, n)
	}
	for i := len(out); i < cap(out); i++ {
		out[:cap(out)][i] = api.Node{Kind: -77, Text: "room"}
	}
	return out
}

func TestWriteLeavesWhatItWasHanded(t *testing.T) {
	for _, given := range []string{manyThings, "(#0=\"t\" #0#)", "a", "#(a b c)", "(a . #\\tab)"} {
		nodes := withRoom(graphOf(t, given))
		before := told(nodes)
		for mode := -1; mode <= 3; mode++ {
			Write(nodes, mode)
		}
		if told(nodes) != before {
			t.Errorf("Write has written into the nodes of %s", given)
		}
		for _, n := range nodes {
			if slices.ContainsFunc(n.Subs[len(n.Subs):cap(n.Subs)], func(x int) bool { return x != -77 }) {
				t.Errorf("Write has written into the spare room of Subs of %s", given)
			}
		}
		for _, n := range nodes[len(nodes):cap(nodes)] {
			if n.Kind != -77 || n.Text != "room" || n.N != 0 || n.D != 0 || n.Subs != nil {
				t.Errorf("Write has written into the spare room of the nodes of %s", given)
			}
		}
	}
}

func TestWrittenTextsAreNewMemory(t *testing.T) {
	for _, n := range []api.Node{symbol("symbol"), symbol("a"), text("text"), text("")} {
		own := strings.Clone(n.Text)
		n.Text = own
		got, _ := Write(list(n), api.Shared)
		again, _ := Write(list(n), api.Shared)
		if unsafe.StringData(got) == unsafe.StringData(own) || unsafe.StringData(got) == unsafe.StringData(again) {
			t.Errorf("%q is no new memory", got)
		}
	}
}

// An answer hangs on the arguments alone: not on what was written ahead of it,
// nor on what is done with the nodes behind it.
func TestWritesAtTheSameTime(t *testing.T) {
	nodes := graphOf(t, "#0=(a #1=\"t\" #1# . #0#)")
	var callers sync.WaitGroup
	for range 8 {
		callers.Add(1)
		go func() {
			defer callers.Done()
			for range 200 {
				writes(t, nodes, api.Shared, "#0=(a #1=\"t\" #1# . #0#)")
				writes(t, nodes, api.Cycles, "#0=(a \"t\" \"t\" . #0#)")
				refuses(t, nodes, api.Simple, api.ErrCycle)
			}
		}()
	}
	callers.Wait()
	got, _ := Write(nodes, api.Shared)
	spoil(nodes)
	if got != "#0=(a #1=\"t\" #1# . #0#)" {
		t.Errorf("a text was changed by writing into the nodes: %s", got)
	}
	refusesAlways(t, nodes, api.ErrGraph)
}
