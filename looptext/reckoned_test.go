package looptext

import (
	"fmt"
	"math/big"
	"math/rand/v2"
	"strings"
	"testing"

	"looptext/api"
)

// P10, for many mixed texts: a second calculator, which goes through the nodes
// of a graph, reckons with the library's numbers, and knows nothing of what it
// has met before.

type second struct{ nodes []api.Node }

// answer is what Reckon must answer if nothing stands behind the datum.
func answer(text string) (string, api.Errno) {
	nodes, _, errno := Read(text, api.MaxDepth)
	if errno != api.OK {
		return "", errno
	}
	if len(metFromWithin(nodes)) > 0 {
		return "", api.ErrCycle
	}
	found, errno := second{nodes}.reckon(0)
	if errno != api.OK {
		return "", errno
	}
	return Write(found, api.Simple)
}

// from is the graph whose root is another node. That one stands ahead of all,
// so that each number is one more.
func (s second) from(root int) []api.Node {
	var out []api.Node
	for _, n := range append(list(s.nodes[root]), s.nodes...) {
		subs := make([]int, len(n.Subs))
		for i, sub := range n.Subs {
			subs[i] = sub + 1
		}
		n.Subs = subs
		out = append(out, n)
	}
	return inOrder(out)
}

func (s second) reckon(at int) ([]api.Node, api.Errno) {
	switch n := s.nodes[at]; n.Kind {
	case api.Number, api.Truth, api.Text, api.Char:
		return list(n), api.OK
	case api.Pair:
		return s.list(at)
	}
	return nil, api.ErrOp
}

func (s second) list(at int) ([]api.Node, api.Errno) {
	var held []int
	for ; s.nodes[at].Kind == api.Pair; at = s.nodes[at].Subs[1] {
		held = append(held, s.nodes[at].Subs[0])
	}
	head := s.nodes[held[0]]
	held = held[1:]
	ways := map[string]bool{"quote": len(held) == 1, "+": true, "*": true, "-": len(held) > 0, "/": len(held) > 0, "=": len(held) == 2, "<": len(held) == 2, "if": len(held) == 3}
	if s.nodes[at].Kind != api.Nil || head.Kind != api.Symbol || !ways[head.Text] {
		return nil, api.ErrOp
	}
	switch head.Text {
	case "quote":
		return s.from(held[0]), api.OK
	case "if":
		found, errno := s.reckon(held[0])
		if errno != api.OK {
			return nil, errno
		}
		if told(found) == told(list(truth(0))) {
			return s.reckon(held[2])
		}
		return s.reckon(held[1])
	}
	return s.count(head.Text, held)
}

func (s second) count(head string, held []int) ([]api.Node, api.Errno) {
	var all []api.Node
	for _, at := range held {
		found, errno := s.reckon(at)
		if errno != api.OK {
			return nil, errno
		}
		all = append(all, found[0])
	}
	var numbers []*big.Rat
	for _, n := range all {
		if n.Kind != api.Number {
			return nil, api.ErrOp
		}
		numbers = append(numbers, big.NewRat(int64(n.N), int64(n.D)))
	}
	switch head {
	case "=":
		return list(truthOf(numbers[0].Cmp(numbers[1]) == 0)), api.OK
	case "<":
		return list(truthOf(numbers[0].Cmp(numbers[1]) < 0)), api.OK
	}
	return fold(head, numbers)
}

func truthOf(holds bool) api.Node {
	if holds {
		return truth(1)
	}
	return truth(0)
}

func fold(head string, numbers []*big.Rat) ([]api.Node, api.Errno) {
	first := map[string]int64{"+": 0, "-": 0, "*": 1, "/": 1}
	if len(numbers) < 2 {
		numbers = append([]*big.Rat{big.NewRat(first[head], 1)}, numbers...)
	}
	so := numbers[0]
	most := big.NewInt(api.MaxNumber)
	for _, n := range numbers[1:] {
		switch head {
		case "+":
			so = new(big.Rat).Add(so, n)
		case "-":
			so = new(big.Rat).Sub(so, n)
		case "*":
			so = new(big.Rat).Mul(so, n)
		case "/":
			if n.Sign() == 0 {
				return nil, api.ErrZero
			}
			so = new(big.Rat).Quo(so, n)
		}
		if so.Num().CmpAbs(most) > 0 || so.Denom().Cmp(most) > 0 {
			return nil, api.ErrNumber
		}
	}
	return list(number(int(so.Num().Int64()), int(so.Denom().Int64()))), api.OK
}

// someText is a text to be reckoned, most often a right one.
type someText struct {
	source *rand.Rand
	labels int // so many were put
}

func (s *someText) datum(deep int) string {
	pick := s.source.IntN(20)
	switch {
	case pick == 0 && s.labels > 0:
		return fmt.Sprintf("#%d#", s.source.IntN(s.labels))
	case pick < 3:
		s.labels++
		return fmt.Sprintf("#%d=", s.labels-1) + s.plain(deep)
	}
	return s.plain(deep)
}

func (s *someText) plain(deep int) string {
	numbers := []string{"0", "1", "2", "-1", "1/2", "-2/3", "7", "1000", "1001", "1000000", "-999999", "1/1000000", "1/1001", "999983/2", "-6/4"}
	others := []string{"#t", "#f", "\"t\"", "#\\a", "'a", "'()", "a", "()", "#(1)", "(-)", "'#(a \"\n\")", "(+ 1 . 2)", "'(x . #\\tab)"}
	switch pick := s.source.IntN(30); {
	case deep == 0 && pick < 27 || pick < 8:
		return numbers[s.source.IntN(len(numbers))]
	case deep == 0 || pick < 10:
		return others[s.source.IntN(len(others))]
	case pick < 14:
		return "(if " + s.datum(deep-1) + " " + s.datum(deep-1) + " " + s.datum(deep-1) + ")"
	case pick < 17:
		return "(" + []string{"=", "<"}[pick%2] + " " + s.datum(deep-1) + " " + s.datum(deep-1) + ")"
	case pick < 18:
		return "'" + s.datum(deep-1)
	}
	text := "(" + []string{"+", "-", "*", "/"}[s.source.IntN(4)]
	for range s.source.IntN(4) {
		text += " " + s.datum(deep-1)
	}
	return text + ")"
}

func TestReckonMixedTexts(t *testing.T) {
	source := rand.New(rand.NewPCG(7, 8))
	told := map[api.Errno]int{}
	for range 40000 {
		text := (&someText{source: source}).datum(source.IntN(5))
		want, errno := answer(text)
		told[errno]++
		behind := []string{"", " ", ";c", "#| |#"}[source.IntN(4)]
		if len(text+behind) > api.MaxText {
			continue
		}
		if errno == api.OK {
			gives(t, map[string]string{text + behind: want})
		} else {
			denies(t, errno, text+behind)
		}
	}
	for _, errno := range []api.Errno{api.OK, api.ErrCycle, api.ErrOp, api.ErrZero, api.ErrNumber} {
		if told[errno] < 40 {
			t.Errorf("only %d texts with error %d: the mixture is poor", told[errno], errno)
		}
	}
}

// A quoted graph is written as Write writes it.
func TestReckonQuotedGraphs(t *testing.T) {
	source := rand.New(rand.NewPCG(9, 10))
	for range 10000 {
		nodes := anyGraph(source, 1+source.IntN(7))
		shared, errno := Write(nodes, api.Shared)
		if errno != api.OK || len(shared) == api.MaxText || strings.Count(shared, "(") > 25 {
			continue
		}
		want, errno := Write(nodes, api.Simple)
		if errno == api.OK {
			gives(t, map[string]string{"'" + shared: want, "(quote " + shared + ") ; c": want, "(if #f 1 '" + shared + ")": want})
		} else {
			denies(t, errno, "'"+shared, "(if #t 1 '"+shared+")")
		}
	}
}
