package looptext

import (
	"fmt"
	"strings"
	"testing"

	"looptext/api"
)

// P3, and the section Texts.

func TestReadArguments(t *testing.T) {
	fails(t, "a", -1, api.ErrArg, 0)
	fails(t, "a", 31, api.ErrArg, 0)
	fails(t, strings.Repeat("a", 401), -1, api.ErrArg, 0)
	fails(t, strings.Repeat("a", 401), 0, api.ErrLong, 0)
	fails(t, "a"+strings.Repeat(" ", 400), 0, api.ErrLong, 0)
	reads(t, "a"+strings.Repeat(" ", 399), 0, `symbol"a"`, 1)
	reads(t, strings.Repeat(" ", 399)+"a", 30, `symbol"a"`, 400)
	readsAll(t, strings.Repeat("a", 400), `symbol"`+strings.Repeat("a", 400)+`"`)
	readsAll(t, `"`+strings.Repeat("b", 398)+`"`, `text"`+strings.Repeat("b", 398)+`"`)
}

func TestHowManyBytes(t *testing.T) {
	a, pair := `symbol"a"`, `pair[1 2] symbol"a" nil`
	reads(t, "a", 0, a, 1)
	reads(t, "a ", 0, a, 1)
	reads(t, "\t a\n", 0, a, 3)
	reads(t, "a)", 0, a, 1)
	reads(t, "a(", 0, a, 1)
	reads(t, "a \"", 0, a, 1)
	reads(t, "a#|", 0, a, 1)
	reads(t, "a 1a #x \\", 0, a, 1)
	reads(t, "a\x80", 0, a, 1)
	reads(t, "(a) #0#", 1, pair, 3)
	reads(t, "(a ;)\n )x", 1, pair, 8)
	reads(t, "#;b a #;c", 0, a, 5)
	reads(t, "(a . #t) x", 5, `pair[1 2] symbol"a" truth:1/0`, 8)
}

func TestBlanksAndComments(t *testing.T) {
	list := `pair[1 2] symbol"a" pair[3 4] symbol"b" nil`
	for _, text := range []string{
		"(a b)", "( a\tb\n)", "(a;b\nb)", "(a;b\n;c\n\nb)", "(a#||#b)", "(a #|b|# b)", "(a #| ; |# b)", "(a #| \" |# b)",
		"(a #|#||#|#b)", "(a #| #| b |# #| c |# |# b)", "(a #|| |# b)", "(a #|##|||#|# b)", "(a #||||# b)", "(a;#|\nb)", "(a b #;c)", "(#;c a b)",
		"(a #;c b)", "(a #; c b)", "(a #;#;c d b)", "(a #;c #;d b)", "(a #;(c #;d e) b)", "(a #;#(c) b)", "(a #;'c b)",
		"(a #;\"c\" b)", "(a #;;c\nc b)", "(a #;(c . d) b)", "#;c(a b)", "(a . #;c (b))", "(a #;c . (b))", "(a . (b) #;c)",
	} {
		readsAll(t, text, list)
	}
	readsAll(t, "; to the end\na", `symbol"a"`)
	readsAll(t, "'#;b a", `pair[1 2] symbol"quote" pair[3 4] symbol"a" nil`)
	readsAll(t, "#0=#;b a", `symbol"a"`)
}

func TestTexts(t *testing.T) {
	for text, want := range map[string]string{
		`""`: "", `"a b"`: "a b", `"\\"`: "\\", `"\""`: "\"", `"\n"`: "\n", `"\t"`: "\t", `"\\n"`: "\\n", `"\\\\"`: "\\\\", `"#|;("`: "#|;(",
		"\"\n\t\r\"": "\n\t\r", "\"\x00\xff\"": "\x00\xff", "\"é\"": "é", `"'"`: "'",
	} {
		readsAll(t, text, fmt.Sprintf("text%q", want))
	}
	readsAll(t, `("a""b")`, `pair[1 2] text"a" pair[3 4] text"b" nil`)
	for c := range 256 {
		if c != '"' && c != '\\' {
			one := string([]byte{byte(c)})
			readsAll(t, `"`+one+`"`, fmt.Sprintf("text%q", one))
		}
	}
}

func TestCharacters(t *testing.T) {
	for c := range 256 {
		text := "#\\" + string([]byte{byte(c)})
		if c >= 33 && c <= 126 {
			readsAll(t, text, fmt.Sprintf("char:%d/0", c))
			reads(t, text+"(", 0, fmt.Sprintf("char:%d/0", c), 3)
		} else {
			fails(t, text, 0, api.ErrText, 0)
		}
	}
	for name, code := range map[string]int{"space": 32, "newline": 10, "tab": 9, "nul": 0, "delete": 127, "escape": 27} {
		want := fmt.Sprintf("char:%d/0", code)
		readsAll(t, "#\\"+name, want)
		reads(t, "#\\"+name+"1", 0, want, len(name)+2)
		reads(t, "#\\"+name+"-a", 0, want, len(name)+2)
		fails(t, "#\\"+name+"s", 0, api.ErrText, 0)
		fails(t, "#\\"+name[:len(name)-1], 0, api.ErrText, 0)
		fails(t, "#\\"+strings.ToUpper(name), 0, api.ErrText, 0)
	}
	readsAll(t, "(#\\a1)", `pair[1 2] char:97/0 pair[3 4] number:1/1 nil`)
	readsAll(t, "(#\\1a)", `pair[1 2] char:49/0 pair[3 4] symbol"a" nil`)
	readsAll(t, "(#\\))", `pair[1 2] char:41/0 nil`)
	readsAll(t, "#\\;", `char:59/0`)
}

func TestTruths(t *testing.T) {
	for _, text := range []string{"#t", "#true"} {
		readsAll(t, text, "truth:1/0")
		reads(t, text+"#x", 0, "truth:1/0", len(text))
		reads(t, text+"(", 0, "truth:1/0", len(text))
	}
	for _, text := range []string{"#f", "#false"} {
		readsAll(t, text, "truth:0/0")
	}
	for _, text := range []string{"#", "#T", "#F", "#True", "#tr", "#truer", "#t.", "#t1", "#fals", "#a", "#=", "# t", "##", "#.", "#'"} {
		fails(t, text, 0, api.ErrText, 0)
	}
}

func TestWords(t *testing.T) {
	for _, text := range []string{"a", "Z", "+", "-", "*", "/", "<", ">", "=", "?", "!", "_", "..", "...", ".a", ".5", "+a", "-.5", "+-1", "--1", "+/1", "a.b", "a1", "quote", "t", "/2", "=>", "a/b"} {
		readsAll(t, text, fmt.Sprintf("symbol%q", text))
		reads(t, text+"\"", 0, fmt.Sprintf("symbol%q", text), len(text))
	}
	for text, want := range map[string]string{
		"0": "0/1", "7": "7/1", "+7": "7/1", "-7": "-7/1", "-0": "0/1", "+0": "0/1", "007": "7/1", "6/4": "3/2", "-6/4": "-3/2", "+6/4": "3/2", "4/2": "2/1",
		"0/9": "0/1", "-0/9": "0/1", "1/007": "1/7", "1000000": "1000000/1", "-1000000": "-1000000/1", "1/1000000": "1/1000000", "-1000000/1000000": "-1/1",
		"999999/1000000": "999999/1000000", "00000000000000000000000001": "1/1", strings.Repeat("0", 390) + "1000000": "1000000/1",
	} {
		readsAll(t, text, "number:"+want)
	}
	for _, text := range []string{"1a", "1.", "1.5", "+1a", "-1-", "1/", "1/a", "1/-2", "1/+2", "1/2/3", "1//2", "1+", "0x1", "1_000", "1/2.", "1=", "1?"} {
		fails(t, text, 0, api.ErrText, 0)
	}
}

func TestListsAndVectors(t *testing.T) {
	for text, want := range map[string]string{
		"()":           "nil",
		"( )":          "nil",
		"(#;a)":        "nil",
		"(a)":          `pair[1 2] symbol"a" nil`,
		"(a . b)":      `pair[1 2] symbol"a" symbol"b"`,
		"(a .b)":       `pair[1 2] symbol"a" pair[3 4] symbol".b" nil`,
		"(a. b)":       `pair[1 2] symbol"a." pair[3 4] symbol"b" nil`,
		"(\"\".())":    `pair[1 2] text"" nil`,
		"(a b . c)":    `pair[1 2] symbol"a" pair[3 4] symbol"b" symbol"c"`,
		"(a . (b c))":  `pair[1 2] symbol"a" pair[3 4] symbol"b" pair[5 6] symbol"c" nil`,
		"((a) b)":      `pair[1 4] pair[2 3] symbol"a" nil pair[5 6] symbol"b" nil`,
		"(() . ())":    `pair[1 2] nil nil`,
		"(a a)":        `pair[1 2] symbol"a" pair[3 4] symbol"a" nil`,
		"(\"\" \"\")":  `pair[1 2] text"" pair[3 4] text"" nil`,
		"#()":          "vector",
		"#(#;a)":       "vector",
		"#(a)":         `vector[1] symbol"a"`,
		"#((a) b)":     `vector[1 4] pair[2 3] symbol"a" nil symbol"b"`,
		"#(a #() b)":   `vector[1 2 3] symbol"a" vector symbol"b"`,
		"(#(a) . #())": `pair[1 3] vector[2] symbol"a" vector`,
		"'a":           `pair[1 2] symbol"quote" pair[3 4] symbol"a" nil`,
		"' a":          `pair[1 2] symbol"quote" pair[3 4] symbol"a" nil`,
		"(quote a)":    `pair[1 2] symbol"quote" pair[3 4] symbol"a" nil`,
		"'()":          `pair[1 2] symbol"quote" pair[3 4] nil nil`,
		"(a . 'b)":     `pair[1 2] symbol"a" pair[3 4] symbol"quote" pair[5 6] symbol"b" nil`,
		"(a 'b c)":     `pair[1 2] symbol"a" pair[3 8] pair[4 5] symbol"quote" pair[6 7] symbol"b" nil pair[9 10] symbol"c" nil`,
	} {
		readsAll(t, text, want)
	}
	twenty := "#(" + strings.Repeat("1 ", 20) + ")"
	readsAll(t, twenty, "vector[1 2 3 4 5 6 7 8 9 10 11 12 13 14 15 16 17 18 19 20]"+strings.Repeat(" number:1/1", 20))
	nodes, at, errno := Read("#("+strings.Repeat("1 ", 20)+"#;x #;(y))", 2)
	if len(nodes) != 21 || at != 52 || errno != api.OK {
		t.Errorf("twenty, and two that are passed over: %d nodes, %d, error %d", len(nodes), at, errno)
	}
}
