package token

import "strings"

// next is the first token from the byte at on.
func next(text string, at int) Token {
	at, _ = skip(text, at)
	if at == len(text) {
		return endOf(text)
	}
	switch c := text[at]; {
	case c == '(':
		return Token{Kind: Open, At: at, End: at + 1}
	case c == ')':
		return Token{Kind: Close, At: at, End: at + 1}
	case c == '\'':
		return Token{Kind: Quote, At: at, End: at + 1}
	case c == '"':
		return scanText(text, at)
	case c == '#':
		return scanHash(text, at)
	case isWordByte(c):
		return scanWord(text, at)
	}
	return wrong(at)
}

// NothingFrom holds if from the byte at on there are only blanks and comments,
// none of which is cut off.
func NothingFrom(text string, at int) bool {
	at, whole := skip(text, at)
	return whole && at == len(text)
}

// skip is the place behind all blanks and comments; false if the last comment
// is cut off. The place is the text's end then, which is just where ErrEnd is
// told.
func skip(text string, at int) (int, bool) {
	whole := true
	for at < len(text) {
		switch {
		case isBlank(text[at]):
			at++
		case text[at] == ';':
			at = lineEnd(text, at)
		case strings.HasPrefix(text[at:], "#|"):
			at, whole = commentEnd(text, at)
		default:
			return at, whole
		}
	}
	return at, whole
}

func lineEnd(text string, at int) int {
	if n := strings.IndexByte(text[at:], '\n'); n >= 0 {
		return at + n
	}
	return len(text)
}

// commentEnd is the place behind the |# that belongs to the #| at the byte at;
// without one it is the text's end, and false.
func commentEnd(text string, at int) (int, bool) {
	open := 0
	for at < len(text) {
		switch {
		case strings.HasPrefix(text[at:], "#|"):
			open++
			at += 2
		case strings.HasPrefix(text[at:], "|#"):
			open--
			at += 2
			if open == 0 {
				return at, true
			}
		default:
			at++
		}
	}
	return at, false
}

func scanText(text string, at int) Token {
	var worth strings.Builder
	for i := at + 1; i < len(text); i++ {
		c := text[i]
		if c == '"' {
			return Token{Kind: Text, At: at, End: i + 1, Text: worth.String()}
		}
		if c == '\\' {
			i++
			if i == len(text) {
				break
			}
			var ok bool
			if c, ok = escaped(text[i]); !ok {
				return wrong(at)
			}
		}
		worth.WriteByte(c)
	}
	return endOf(text)
}

// escaped is the byte for which a backslash and c stand.
func escaped(c byte) (byte, bool) {
	switch c {
	case '\\', '"':
		return c, true
	case 'n':
		return '\n', true
	case 't':
		return '\t', true
	}
	return 0, false
}

func scanHash(text string, at int) Token {
	if at+1 < len(text) {
		switch text[at+1] {
		case '(':
			return Token{Kind: OpenVector, At: at, End: at + 2}
		case ';':
			return Token{Kind: Pass, At: at, End: at + 2}
		case '\\':
			return scanChar(text, at)
		}
	}
	if t, ok := scanLabel(text, at); ok {
		return t
	}
	return scanTruth(text, at)
}

func scanChar(text string, at int) Token {
	start := at + 2
	if end := runEnd(text, start, isLetter); end-start > 1 {
		code, ok := codeOf(text[start:end])
		if !ok {
			return wrong(at)
		}
		return Token{Kind: Char, At: at, End: end, N: code}
	}
	if start == len(text) || !isOwnChar(int(text[start])) {
		return wrong(at)
	}
	return Token{Kind: Char, At: at, End: start + 1, N: int(text[start])}
}

func scanLabel(text string, at int) (Token, bool) {
	start := at + 1
	end := runEnd(text, start, isDigit)
	if end == start || end-start > 3 || end == len(text) {
		return Token{}, false
	}
	t := Token{At: at, End: end + 1, N: amount(text[start:end])}
	switch text[end] {
	case '=':
		t.Kind = Put
	case '#':
		t.Kind = Ask
	default:
		return Token{}, false
	}
	return t, true
}

func scanTruth(text string, at int) Token {
	end := runEnd(text, at+1, isWordByte)
	t := Token{Kind: Truth, At: at, End: end}
	switch text[at+1 : end] {
	case "t", "true":
		t.N = 1
	case "f", "false":
		t.N = 0
	default:
		return wrong(at)
	}
	return t
}

func scanWord(text string, at int) Token {
	end := runEnd(text, at, isWordByte)
	word := text[at:end]
	if word == "." {
		return Token{Kind: Dot, At: at, End: end}
	}
	if !mustBeNumber(word) {
		return Token{Kind: Symbol, At: at, End: end, Text: word}
	}
	t, ok := number(word)
	if !ok {
		return wrong(at)
	}
	t.At, t.End = at, end
	return t
}
