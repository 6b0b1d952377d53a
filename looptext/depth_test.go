package looptext

import (
	"strings"
	"testing"

	"looptext/api"
)

// P6.

func TestDepth(t *testing.T) {
	// Each text is read at the depth least, and at one less it is wrong at that place.
	for _, c := range []struct {
		text  string
		least int
		at    int
	}{
		{"()", 1, 0}, {"#()", 1, 0}, {"'a", 1, 0}, {"#0=a", 1, 0}, {" (a)", 1, 1},
		{"(())", 2, 1}, {"#(())", 2, 2}, {"'()", 2, 1}, {"#0=()", 2, 3}, {"(#())", 2, 1}, {"('a)", 2, 1}, {"(#0=a)", 2, 1}, {"''a", 2, 1}, {"#0=#1=a", 2, 3},
		{"(a (b))", 2, 3}, {"((a) (b))", 2, 1}, {"(a . (b))", 2, 5}, {"(a . 'b)", 2, 5}, {"(a . #0=b)", 2, 5}, {"#0=(a . #0#)", 2, 3}, {"(a . (b . (c)))", 3, 10},
		{"(a '())", 3, 4}, {"#0='#(#0#)", 3, 4}, {"(a (b #(c)))", 3, 6},
		{"#;(a) b", 1, 2}, {"#;'a b", 1, 2}, {"#;#() b", 1, 2}, {"(#;(a) b)", 2, 3}, {"(a #;(b))", 2, 5}, {"(a . b #;(c))", 2, 9}, {"'#;(b) a", 2, 3}, {"#0=#;'b a", 2, 5}, {"#;#;(a) b c", 1, 4}, {"#;(a (b)) c", 2, 5},
	} {
		_, at, errno := Read(c.text, c.least)
		if errno != api.OK || at != len(c.text) {
			t.Errorf("Read(%q, %d): %d, error %d", c.text, c.least, at, errno)
		}
		fails(t, c.text, c.least-1, api.ErrDeep, c.at)
	}
}

func TestDepthBounds(t *testing.T) {
	for _, piece := range []string{"(", "'", "#("} {
		for _, depth := range []int{0, 1, 7, 30} {
			at := depth * len(piece)
			fails(t, strings.Repeat(piece, depth), depth, api.ErrEnd, at)
			fails(t, strings.Repeat(piece, depth)+piece, depth, api.ErrDeep, at)
		}
	}
	// What stands beside, or what is only passed over, makes nothing deeper.
	readsAll(t, "(#;()#;()#;()())", `pair[1 2] nil nil`)
	reads(t, strings.Repeat("#;", 99)+strings.Repeat("a ", 99)+"b", 0, `symbol"b"`, 397)
	reads(t, "(() () ())", 2, `pair[1 2] nil pair[3 4] nil pair[5 6] nil nil`, 10)
}

func TestDepthComesLast(t *testing.T) {
	fails(t, "(#0=a #0=b)", 2, api.ErrLabel, 6)
	fails(t, "#0=#0=a", 1, api.ErrLabel, 3)
	fails(t, "#;#0=a", 0, api.ErrLabel, 2)
	fails(t, "(a . b (c))", 1, api.ErrText, 7)
	fails(t, "#("+strings.Repeat("a ", 20)+"())", 1, api.ErrText, 42)
	fails(t, "(a (", 1, api.ErrDeep, 3)
	fails(t, "((1000001))", 1, api.ErrDeep, 1)
}
