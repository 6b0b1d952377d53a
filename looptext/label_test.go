package looptext

import (
	"testing"

	"looptext/api"
)

// P5.

func TestTheSameNode(t *testing.T) {
	for text, want := range map[string]string{
		"#0=(a . #0#)":             `pair[1 0] symbol"a"`,
		"#0=(#0# . a)":             `pair[0 1] symbol"a"`,
		"#0=(#0# . #0#)":           `pair[0 0]`,
		"#0=(#0#)":                 `pair[0 1] nil`,
		"#0=#(#0# a #0#)":          `vector[0 1 0] symbol"a"`,
		"#0='#0#":                  `pair[1 2] symbol"quote" pair[0 3] nil`,
		"#0=(a b . #0#)":           `pair[1 2] symbol"a" pair[3 0] symbol"b"`,
		"(#0=\"t\" #0#)":           `pair[1 2] text"t" pair[1 3] nil`,
		"(#0=\"\" . #0#)":          `pair[1 1] text""`,
		"(#0=(a) #0# . #0#)":       `pair[1 4] pair[2 3] symbol"a" nil pair[1 1]`,
		"(#0=#() #0#)":             `pair[1 2] vector pair[1 3] nil`,
		"#0=#1=(#0# . #1#)":        `pair[0 0]`,
		"#0=(#1=#0# . #1#)":        `pair[0 0]`,
		"#0=(#1=#0# #2=#1# . #2#)": `pair[0 1] pair[0 0]`,
		"(#1=(a) #0=#1# . #0#)":    `pair[1 4] pair[2 3] symbol"a" nil pair[1 1]`,
		"#1=(#0=(#1# . #0#))":      `pair[1 2] pair[0 1] nil`,
		"(a . #5=(b . #5#))":       `pair[1 2] symbol"a" pair[3 2] symbol"b"`,
		"(#0=(b . c) a . #0#)":     `pair[1 4] pair[2 3] symbol"b" symbol"c" pair[5 1] symbol"a"`,
		"#0=(a #;b . #;c #0# #;d)": `pair[1 0] symbol"a"`,
	} {
		readsAll(t, text, want)
	}
}

func TestANodeOfItsOwn(t *testing.T) {
	for text, want := range map[string]string{
		"(#0=5 #0# . #0#)":    `pair[1 2] number:5/1 pair[3 4] number:5/1 number:5/1`,
		"(#0=a . #0#)":        `pair[1 2] symbol"a" symbol"a"`,
		"(#0=#t . #0#)":       `pair[1 2] truth:1/0 truth:1/0`,
		"(#0=#f . #0#)":       `pair[1 2] truth:0/0 truth:0/0`,
		"(#0=#\\a . #0#)":     `pair[1 2] char:97/0 char:97/0`,
		"(#0=() . #0#)":       `pair[1 2] nil nil`,
		"#(#0=#1=a #0# #1#)":  `vector[1 2 3] symbol"a" symbol"a" symbol"a"`,
		"#(#0=5 #1=#0# #1#)":  `vector[1 2 3] number:5/1 number:5/1 number:5/1`,
		"#0=a":                `symbol"a"`,
		"#0=()":               `nil`,
		"#(#0=(#;b) #0# #0#)": `vector[1 2 3] nil nil nil`,
	} {
		readsAll(t, text, want)
	}
}

func TestLabelsByNumber(t *testing.T) {
	own := `pair[1 0] symbol"a"`
	for _, text := range []string{"#7=(a . #7#)", "#07=(a . #7#)", "#7=(a . #007#)", "#000=(a . #0#)", "#999=(a . #999#)", "#12=(a . #012#)"} {
		readsAll(t, text, own)
	}
	fails(t, "#7=(a . #70#)", 9, api.ErrLabel, 8)
	fails(t, "#1=(a . #10#)", 9, api.ErrLabel, 8)
	fails(t, "#0007=(a . #7#)", 9, api.ErrText, 0)
	reads(t, "#1==", 9, `symbol"="`, 4)
}

func TestWrongLabels(t *testing.T) {
	for _, c := range []struct {
		text string
		at   int
	}{
		// put a second time
		{"(#0=a #0=b)", 6}, {"(#0=a #00=b)", 6}, {"#0=#0=a", 3}, {"#0=(#0=a)", 4}, {"#0=#1=#0=a", 6}, {"(#0=a . #0=b)", 8},
		// not put ahead
		{"#0#", 0}, {"(#0# #0=a)", 1}, {"(#1=a #0#)", 6}, {"(a . #0#)", 5}, {"'#0#", 1}, {"#1=#0#", 3},
		// the very datum
		{"#0=#0#", 3}, {"#0= #0#", 4}, {"#0=#1=#0#", 6}, {"#0=#1=#1#", 6}, {"#0=#1=#2=#0#", 9}, {"#0=#1=#2=#1#", 9}, {"#0=#1=#2=#3=#4=#2#", 15}, {"(a . #0=#0#)", 8}, {"#0=#;a #0#", 7}, {"(#1=a #0=#0#)", 9}, {"#0=(#1=#1#)", 7},
		// in what is passed over
		{"#;#0=a b", 2}, {"#;#0# b", 2}, {"(#0=a #;#0# b)", 8}, {"(#;(#0=a) b)", 4}, {"#;(a . #0=b) c", 7}, {"#;#;a #0=b c", 6}, {"#;'#0# a", 3}, {"#;#(#0#) a", 4}, {"#0=#;#0# a", 5}, {"#;#;#0=a b c", 4}, {"#0=(a #;(b #0#))", 11},
	} {
		fails(t, c.text, 9, api.ErrLabel, c.at)
	}
	// Of several errors at one token.
	fails(t, "(a . b #0#)", 9, api.ErrText, 7)
	fails(t, "(a . b #0=c)", 1, api.ErrText, 7)
	fails(t, "#;(a . b #0=c)", 1, api.ErrText, 9)
}
