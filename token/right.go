package token

// IsSymbol holds if all of a text is read as one symbol.
func IsSymbol(text string) bool {
	if text == "" || text == "." || mustBeNumber(text) {
		return false
	}
	return runEnd(text, 0, isWordByte) == len(text)
}

// IsChar holds if a character with that code can be read.
func IsChar(code int) bool {
	_, named := NameOf(code)
	return named || isOwnChar(code)
}

// isOwnChar holds for the characters that are told by their own byte.
func isOwnChar(code int) bool { return 33 <= code && code <= 126 }
