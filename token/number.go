package token

import (
	"strings"

	"looptext/api"
	"looptext/ratio"
)

func mustBeNumber(word string) bool {
	if word[0] == '+' || word[0] == '-' {
		word = word[1:]
	}
	return word != "" && isDigit(word[0])
}

// number is the token of a word, but for its place; false if the word is none.
func number(word string) (Token, bool) {
	negative := word[0] == '-'
	if negative || word[0] == '+' {
		word = word[1:]
	}
	above, below, divided := strings.Cut(word, "/")
	if !divided {
		below = "1"
	}
	if !allDigits(above) || !allDigits(below) {
		return Token{}, false
	}
	n, d := amount(above), amount(below)
	if fault := numberFault(n, d); fault != api.OK {
		return Token{Kind: Number, Fault: fault}, true
	}
	if negative {
		n = -n
	}
	n, d = ratio.Lowest(n, d)
	return Token{Kind: Number, N: n, D: d}, true
}

func numberFault(n, d int) api.Errno {
	switch {
	case n > api.MaxNumber || d > api.MaxNumber:
		return api.ErrNumber
	case d == 0:
		return api.ErrText
	}
	return api.OK
}

func allDigits(s string) bool { return s != "" && runEnd(s, 0, isDigit) == len(s) }

// amount is what digits tell. It stops growing beyond MaxNumber, so that no
// number of digits can wrap it round.
func amount(digits string) int {
	n := 0
	for i := range len(digits) {
		n = min(n*10+int(digits[i]-'0'), api.MaxNumber+1)
	}
	return n
}
