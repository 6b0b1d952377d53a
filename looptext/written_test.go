package looptext

import (
	"fmt"
	"strings"
	"testing"

	"looptext/api"
)

// P8: which nodes have a label in which mode, and how they are numbered.

func TestLabelsOfModes(t *testing.T) {
	for _, c := range []struct{ text, simple, cycles, shared string }{
		// one that holds itself has a label in both; nothing is written of it in Simple
		{"#5=(a . #5#)", "", "#0=(a . #0#)", "#0=(a . #0#)"},
		{"#0=(#0# . #0#)", "", "#0=(#0# . #0#)", "#0=(#0# . #0#)"},
		{"#0=(#0#)", "", "#0=(#0#)", "#0=(#0#)"},
		{"#0=(a b . #0#)", "", "#0=(a b . #0#)", "#0=(a b . #0#)"},
		{"#0=#(#0# a #0#)", "", "#0=#(#0# a #0#)", "#0=#(#0# a #0#)"},
		{"(b . #9=(a . #9#))", "", "(b . #0=(a . #0#))", "(b . #0=(a . #0#))"},
		{"(b c #9=(a . #9#))", "", "(b c #0=(a . #0#))", "(b c #0=(a . #0#))"},
		{"#0='#0#", "", "#0=(quote #0#)", "#0=(quote #0#)"},
		// one that stands in several places has one in Shared
		{"(#0=\"t\" #0#)", "(\"t\" \"t\")", "(\"t\" \"t\")", "(#0=\"t\" #0#)"},
		{"(#0=\"t\" . #0#)", "(\"t\" . \"t\")", "(\"t\" . \"t\")", "(#0=\"t\" . #0#)"},
		{"#(#0=(a) #0# #0#)", "#((a) (a) (a))", "#((a) (a) (a))", "#(#0=(a) #0# #0#)"},
		{"(#0=#() . #0#)", "(#() . #())", "(#() . #())", "(#0=#() . #0#)"},
		{"(#0=(a) b . #0#)", "((a) b a)", "((a) b a)", "(#0=(a) b . #0#)"},
		{"(#0=(a . b) . #0#)", "((a . b) a . b)", "((a . b) a . b)", "(#0=(a . b) . #0#)"},
		{"((#0=(a) . b) . #0#)", "(((a) . b) a)", "(((a) . b) a)", "((#0=(a) . b) . #0#)"},
		{"#((a . #0=(b)) (c . #0#))", "#((a b) (c b))", "#((a b) (c b))", "#((a . #0=(b)) (c . #0#))"},
		{"(#0=(x #1=\"t\" #1#) #0#)", "((x \"t\" \"t\") (x \"t\" \"t\"))", "((x \"t\" \"t\") (x \"t\" \"t\"))", "(#0=(x #1=\"t\" #1#) #0#)"},
		// and no other atom
		{"(#0=a #0#)", "(a a)", "(a a)", "(a a)"},
		{"#(#0=() #0# #1=5 #1# #2=#t #2# #3=#\\a #3#)", "#(() () 5 5 #t #t #\\a #\\a)", "#(() () 5 5 #t #t #\\a #\\a)", "#(() () 5 5 #t #t #\\a #\\a)"},
		// those that hold themselves, shared ones and both
		{"(#1=(a . #1#) #1# #1#)", "", "(#0=(a . #0#) #0# #0#)", "(#0=(a . #0#) #0# #0#)"},
		{"#0=(a #1=(b . #0#) #1#)", "", "#0=(a (b . #0#) (b . #0#))", "#0=(a #1=(b . #0#) #1#)"},
		{"#0=(a #1=(b #1# . #0#) . #1#)", "", "#0=(a #1=(b #1# . #0#) . #1#)", "#0=(a #1=(b #1# . #0#) . #1#)"},
		{"#(#0=(a #1=(b . #0#)) #1#)", "", "#(#0=(a (b . #0#)) (b . #0#))", "#(#0=(a #1=(b . #0#)) #1#)"},
		{"#(#0=(a . #1=(b . #0#)) #1#)", "", "#(#0=(a b . #0#) (b . #0#))", "#(#0=(a . #1=(b . #0#)) #1#)"},
		{"(#0=(x #1=(y . #1#)) #0#)", "", "((x #0=(y . #0#)) (x #0#))", "(#0=(x #1=(y . #1#)) #0#)"},
		{"#0=(#1=\"t\" #1# . #0#)", "", "#0=(\"t\" \"t\" . #0#)", "#0=(#1=\"t\" #1# . #0#)"},
		{"(a b . #0=(c . #1=(d #0# . #1#)))", "", "(a b . #0=(c . #1=(d #0# . #1#)))", "(a b . #0=(c . #1=(d #0# . #1#)))"},
		{"#0=#(#1=#(#0# #1#) #1#)", "", "#0=#(#1=#(#0# #1#) #1#)", "#0=#(#1=#(#0# #1#) #1#)"},
		// by the order in which they are written, not that in which they were read
		{"(#9=(x) #3=(y #9#) #3# . #9#)", "((x) (y (x)) (y (x)) x)", "((x) (y (x)) (y (x)) x)", "(#0=(x) #1=(y #0#) #1# . #0#)"},
		{"(#7=\"a\" #2=\"b\" #2# #7#)", "(\"a\" \"b\" \"b\" \"a\")", "(\"a\" \"b\" \"b\" \"a\")", "(#0=\"a\" #1=\"b\" #1# #0#)"},
		// a label that is put and not asked for is gone
		{"#0=(#1=a #2=\"t\")", "(a \"t\")", "(a \"t\")", "(a \"t\")"},
	} {
		nodes := graphOf(t, c.text)
		for mode, want := range []string{c.simple, c.cycles, c.shared} {
			if want == "" {
				refuses(t, nodes, mode, api.ErrCycle)
				continue
			}
			writes(t, nodes, mode, want)
		}
	}
}

// Only the Subs of nodes that are reached lead to a node.
func TestLabelsAndWhatIsNotReached(t *testing.T) {
	writesAlike(t, list(pair(1, 2), text("t"), none, pair(1, 1), vector(1, 0)), "(\"t\")")
	writesAlike(t, list(text("t"), pair(0, 0)), "\"t\"")
	writesAlike(t, list(vector(), vector(0, 0)), "#()")
	writes(t, list(pair(1, 1), text("t"), pair(1, 0)), api.Shared, "(#0=\"t\" . #0#)")
}

// The root is met once ahead of all Subs, any other node is not.
func TestLabelOfTheRoot(t *testing.T) {
	writes(t, list(pair(1, 0), none), api.Shared, "#0=(() . #0#)")
	writes(t, list(vector(1), vector(0)), api.Shared, "#0=#(#(#0#))")
	writes(t, list(vector(1), vector(0)), api.Cycles, "#0=#(#(#0#))")
	writesAlike(t, list(vector(1), vector()), "#(#())")
}

// The places of one node are all its Subs, those of one pair or vector too.
func TestTwoSubsOfOneNode(t *testing.T) {
	writes(t, list(pair(1, 1), vector()), api.Shared, "(#0=#() . #0#)")
	writes(t, list(vector(1, 1), text("")), api.Shared, "#(#0=\"\" #0#)")
	writes(t, list(pair(1, 1), pair(2, 2), text("")), api.Shared, "(#0=(#1=\"\" . #1#) . #0#)")
}

// Going through in order, a node that one has left is not met from within.
func TestCyclesInOrder(t *testing.T) {
	// The rest comes behind the first: from the first one comes back to 0, and
	// then the rest is met again, but not from within.
	writes(t, list(pair(1, 1), pair(0, 0)), api.Cycles, "#0=((#0# . #0#) #0# . #0#)")
	// 1 is met first, and from within it 2 and 1 again; later 2 is not gone through.
	writes(t, list(vector(1, 2), vector(2), vector(1)), api.Cycles, "#(#0=#(#(#0#)) #(#0#))")
	writes(t, list(vector(2, 1), vector(2), vector(1)), api.Cycles, "#(#0=#(#(#0#)) #(#0#))")
	writes(t, list(vector(1, 2), vector(2), vector(1)), api.Shared, "#(#0=#(#1=#(#0#)) #1#)")
	writes(t, list(pair(1, 2), pair(2, 2), pair(3, 1), none), api.Cycles, "(#0=((() . #0#) () . #0#) () . #0#)")
}

func TestManyLabels(t *testing.T) {
	var subs []int
	var first, again []string
	nodes := list(vector(1, 2), none, none)
	for i := range 20 {
		subs = append(subs, len(nodes))
		nodes = append(nodes, vector())
		first = append(first, fmt.Sprintf("#%d=#()", i))
		again = append(again, fmt.Sprintf("#%d#", i))
	}
	nodes[1], nodes[2] = vector(subs...), vector(subs...)
	writes(t, nodes, api.Shared, "#(#("+strings.Join(first, " ")+") #("+strings.Join(again, " ")+"))")
}
