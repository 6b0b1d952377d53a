package writer

import (
	"strings"
	"testing"

	"looptext/api"
)

func TestWrite(t *testing.T) {
	a, itself := api.Node{Kind: api.Symbol, Text: "a"}, api.Node{Kind: api.Pair, Subs: []int{1, 0}}
	if got, fits := Write([]api.Node{itself, a}, []bool{true, false}); got != "#0=(a . #0#)" || !fits {
		t.Errorf("got %q, %t", got, fits)
	}
	a.Text = strings.Repeat("a", 390)
	if got, fits := Write([]api.Node{itself, a}, []bool{true, false}); got != "" || fits {
		t.Errorf("got %q, %t", got, fits)
	}
}

func TestAtoms(t *testing.T) {
	for want, n := range map[string]api.Node{
		"()": {}, `"\\\"\n\t` + "\r\"": {Kind: api.Text, Text: "\\\"\n\t\r"}, "a": {Kind: api.Symbol, Text: "a"}, "-1/2": {Kind: api.Number, N: -1, D: 2}, "-1": {Kind: api.Number, N: -1, D: 1},
		"#t": {Kind: api.Truth, N: 1}, "#f": {Kind: api.Truth}, "#\\nul": {Kind: api.Char}, "#\\a": {Kind: api.Char, N: 97},
	} {
		if got := atom(n); got != want {
			t.Errorf("%+v is written as %s", n, got)
		}
	}
}
