package looptext

import (
	"strings"
	"testing"

	"looptext/api"
)

// P4.

func TestWrongPlaces(t *testing.T) {
	for _, text := range []string{"\x80", "\r", "\x00", "[", "]", "{", "|", "|#", ",", "`", "@", "\\", "$", "%", "&", ":", "^", "~", "#", "#\\", "#\\ab", "#1", "#1a", "#1234=", "#1234#", "#=", "1a", "\"\\a\"", "\"\\ \"", "\"\\\n\"", "\"\\x", "\"a\\x\\", "\"\\\\\\N\""} {
		fails(t, text, 9, api.ErrText, 0)
		fails(t, " ;\n#||#"+text, 9, api.ErrText, 7)
		fails(t, "(a "+text, 9, api.ErrText, 3)
		fails(t, "(a . b "+text, 9, api.ErrText, 7)
		fails(t, "#;"+text, 9, api.ErrText, 2)
		reads(t, "a "+text, 9, `symbol"a"`, 1)
	}
}

func TestTokensThatCannotStandThere(t *testing.T) {
	for _, c := range []struct {
		text string
		at   int
	}{
		{")", 0}, {".", 0}, {" . a", 1}, {"')", 1}, {"'.", 1}, {"(')", 2}, {"(a '. b)", 4}, {"#0=)", 3}, {"#0=.", 3}, {"#;)", 2}, {"#;. a", 2}, {"(#;)", 3}, {"(a #;. b)", 5},
		{"(. a)", 1}, {"(.)", 1}, {"(#;a . b)", 5}, {"#(. a)", 2}, {"#(a . b)", 4}, {"#(.)", 2}, {"(#(a . b))", 5},
		{"(a . )", 5}, {"(a . #;b)", 8}, {"(a . . b)", 5}, {"(a . b c)", 7}, {"(a . b . c)", 7}, {"(a . b #(c))", 7}, {"(a . b 'c)", 7}, {"(a . b #t)", 7}, {"(a . b \"c\")", 7}, {"(a . b (c))", 7}, {"(a . b #;c d)", 11},
		{"#;(a . b c) d", 9}, {"#;#(a . b) d", 6},
	} {
		fails(t, c.text, 9, api.ErrText, c.at)
	}
	twenty := "#(" + strings.Repeat("a ", 20)
	for _, more := range []string{"b", "(", "#(", "'b", "\"b\"", "#\\b", "#t", "5", ".", "#0=b", "#;b c"} {
		at := len(twenty)
		if more == "#;b c" {
			at += 4
		}
		fails(t, twenty+more+")", 9, api.ErrText, at)
		fails(t, "#;"+twenty+more+")", 9, api.ErrText, at+2)
	}
}

func TestTextEnds(t *testing.T) {
	for _, text := range []string{"", " ", "\n", ";", ";a", "#|", "#|a", "#| |", "#|#", "#|#|#", "#|#||#", "#;", "#;a", "#;(a)", "#;#;a b", "(", "(a", "(a ", "(a .", "(a . b", "(a . b ;)", "(a #|)", "(a #;", "#(", "#(a", "'", "''", "#0=", "#0=;", "\"", "\"a", "\"\\", "\"a\\", "\"\\\"", "\"\\\\\\\"", "(\"a)", "(a . \"b)", "(a . b #|)"} {
		fails(t, text, 9, api.ErrEnd, len(text))
	}
	// A text that is cut off is no token, so it does not stand anywhere.
	fails(t, "(a . b \"c)", 9, api.ErrEnd, 10)
	fails(t, "#("+strings.Repeat("a ", 20)+"\"b)", 9, api.ErrEnd, 45)
	fails(t, "#("+strings.Repeat("a ", 20), 9, api.ErrEnd, 42)
}

func TestNumbersThatAreTooGreat(t *testing.T) {
	for _, text := range []string{"1000001", "-1000001", "+1000001", "1000001/1", "1/1000001", "2000000/2", "2/2000000", "2000000/2000000", "2000000/0", "0/1000001", "18446744073709551616", "18446744073709551617/18446744073709551616", "001000001", strings.Repeat("9", 350)} {
		fails(t, text, 9, api.ErrNumber, 0)
		fails(t, "(a "+text+")", 9, api.ErrNumber, 3)
		fails(t, "#;"+text+" a", 9, api.ErrNumber, 2)
		fails(t, "(a . "+text+")", 9, api.ErrNumber, 5)
		fails(t, "(a . b "+text+")", 9, api.ErrText, 7)
	}
	for _, text := range []string{"1/0", "0/0", "-1/000", "1000000/0"} {
		fails(t, text, 9, api.ErrText, 0)
		fails(t, "(a "+text+")", 9, api.ErrText, 3)
		fails(t, "#;"+text+" a", 9, api.ErrText, 2)
	}
	fails(t, "#("+strings.Repeat("a ", 20)+"1000001)", 9, api.ErrText, 42)
	fails(t, "1000001a", 9, api.ErrText, 0)
	fails(t, "1000001/", 9, api.ErrText, 0)
}

func TestTooManyNodes(t *testing.T) {
	// A list has a pair for each thing that it holds.
	ahead := "(" + strings.Repeat("1 ", 73) + ". "
	holdsNodes(t, ahead+"#(1 1 1))", 150)
	fails(t, ahead+"#(1 1 1 1))", 9, api.ErrLong, 0)
	fails(t, "#;()"+ahead+"#(1 1 1 1))", 9, api.ErrLong, 0)
	// What is wrong on the way comes first.
	fails(t, ahead+"#(1 1 1 1)", 9, api.ErrEnd, len(ahead)+10)
	fails(t, ahead+"#(1 1 1 1) 1)", 9, api.ErrText, len(ahead)+11)
	fails(t, ahead+"#(1 1 1 1 #0#))", 9, api.ErrLabel, len(ahead)+10)
	fails(t, ahead+"#(1 1 1 1 ()))", 2, api.ErrDeep, len(ahead)+10)
	fails(t, strings.Repeat("'", 30)+"("+strings.Repeat("'a", 60)+")", 30, api.ErrDeep, 30)
	fails(t, "("+strings.Repeat("'a", 199)+")", 30, api.ErrLong, 0)
	// What is passed over has no nodes, and the same thing is one node.
	holdsNodes(t, "(#;"+ahead+"#(1 1 1 1)) 1)", 3)
	holdsNodes(t, "(#0=(1)"+strings.Repeat("#0#", 120)+")", 125)
	fails(t, "(#0=1 "+strings.Repeat("#0#", 120)+")", 9, api.ErrLong, 0)
}

func holdsNodes(t *testing.T, text string, want int) {
	t.Helper()
	nodes, at, errno := Read(text, 9)
	if len(nodes) != want || at != len(text) || errno != api.OK || disorder(nodes) != "" {
		t.Errorf("Read(%.60q) = %d nodes, %d, error %d; want %d nodes", text, len(nodes), at, errno, want)
	}
}
