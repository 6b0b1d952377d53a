package token

import "strings"

func isBlank(c byte) bool { return c == ' ' || c == '\t' || c == '\n' }

func isDigit(c byte) bool { return '0' <= c && c <= '9' }

func isLetter(c byte) bool { return 'a' <= c && c <= 'z' || 'A' <= c && c <= 'Z' }

func isWordByte(c byte) bool {
	return isLetter(c) || isDigit(c) || strings.IndexByte("+-*/<>=?!._", c) >= 0
}

// runEnd is the place behind as many bytes of a sort as follow from at on.
func runEnd(text string, at int, ofSort func(byte) bool) int {
	for at < len(text) && ofSort(text[at]) {
		at++
	}
	return at
}
