package token

import (
	"slices"
	"testing"

	"looptext/api"
)

func TestGather(t *testing.T) {
	got := Gather(" (a #1=\"x\\n\"\n#01# . #\\tab) #;'#t #(-6/4")
	want := []Token{
		{Kind: Open, At: 1, End: 2},
		{Kind: Symbol, At: 2, End: 3, Text: "a"},
		{Kind: Put, At: 4, End: 7, N: 1},
		{Kind: Text, At: 7, End: 12, Text: "x\n"},
		{Kind: Ask, At: 13, End: 17, N: 1},
		{Kind: Dot, At: 18, End: 19},
		{Kind: Char, At: 20, End: 25, N: 9},
		{Kind: Close, At: 25, End: 26},
		{Kind: Pass, At: 27, End: 29},
		{Kind: Quote, At: 29, End: 30},
		{Kind: Truth, At: 30, End: 32, N: 1},
		{Kind: OpenVector, At: 33, End: 35},
		{Kind: Number, At: 35, End: 39, N: -3, D: 2},
		{Kind: End, At: 39, End: 39},
	}
	if !slices.Equal(got, want) {
		t.Errorf("got %+v", got)
	}
}

func TestTheLastToken(t *testing.T) {
	for text, want := range map[string]Token{
		"":          {Kind: End},
		"a ":        {Kind: End, At: 2, End: 2},
		"a \"b":     {Kind: End, At: 4, End: 4},
		"a #| b":    {Kind: End, At: 6, End: 6},
		"a #x b c":  {Kind: Wrong, At: 2, End: 2},
		"a \"\\x b": {Kind: Wrong, At: 2, End: 2},
	} {
		got := Gather(text)
		if got[len(got)-1] != want {
			t.Errorf("Gather(%q) = %+v", text, got)
		}
		if slices.ContainsFunc(got[:len(got)-1], Token.last) {
			t.Errorf("Gather(%q) goes on behind the last token: %+v", text, got)
		}
	}
}

// A number's fault waits in its token, which is whole but for the worth.
func TestNumberFaults(t *testing.T) {
	for text, want := range map[string]api.Errno{"1000000": api.OK, "1000001": api.ErrNumber, "1/1000001": api.ErrNumber, "1/0": api.ErrText, "1000001/0": api.ErrNumber} {
		got := Gather(text + " a")
		if len(got) != 3 || got[0].Kind != Number || got[0].Fault != want || got[0].End != len(text) {
			t.Errorf("Gather(%q) = %+v", text+" a", got)
		}
	}
}

func TestIsSymbol(t *testing.T) {
	for _, s := range []string{"a", "+", "-", "..", "...", ".5", "+a", "-.1", "+-1", "a1", "aZ09+-*/<>=?!._"} {
		if !IsSymbol(s) {
			t.Errorf("%q is a symbol", s)
		}
	}
	for _, s := range []string{"", ".", "1", "+1", "-1a", "1/2", "a b", " a", "a ", "a\n", "#t", "a#", "é", "\x00", "a;"} {
		if IsSymbol(s) {
			t.Errorf("%q is no symbol", s)
		}
	}
	// It is what is read as one: any two bytes tell.
	for i := range 1 << 16 {
		s := string([]byte{byte(i >> 8), byte(i)})
		got := Gather(s)
		if IsSymbol(s) != (got[0].Kind == Symbol && got[0].Text == s) {
			t.Errorf("IsSymbol(%q) = %t", s, IsSymbol(s))
		}
	}
}

func TestIsChar(t *testing.T) {
	for code := -300; code <= 300; code++ {
		named := slices.Contains([]int{32, 10, 9, 0, 127, 27}, code)
		if IsChar(code) != (named || 33 <= code && code <= 126) {
			t.Errorf("IsChar(%d) = %t", code, IsChar(code))
		}
		if name, ok := NameOf(code); ok != named || ok != (name != "") {
			t.Errorf("NameOf(%d) = %q, %t", code, name, ok)
		}
	}
}

func TestNothingFrom(t *testing.T) {
	for text, want := range map[string]bool{
		"": true, " \t\n": true, ";": true, "; a": true, ";\n;": true, "#||#": true, "#| #| |# |#": true, " #| a |# ; b": true, "#||##||#": true,
		"a": false, " )": false, "; a\nb": false, "#|": false, "#| |": false, "#| #| |#": false, "#||# #|": false, "#||#a": false, "#;": false, "|#": false, "\r": false, "#": false,
	} {
		if NothingFrom(text, 0) != want || !NothingFrom(text, len(text)) {
			t.Errorf("NothingFrom(%q) = %t", text, !want)
		}
		if NothingFrom("(a"+text, 2) != want {
			t.Errorf("NothingFrom(%q, 2) = %t", "(a"+text, !want)
		}
	}
}
