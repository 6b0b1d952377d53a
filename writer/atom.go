package writer

import (
	"strconv"
	"strings"

	"looptext/api"
	"looptext/token"
)

// atom is the token of a node that holds no other.
func atom(n api.Node) string {
	switch n.Kind {
	case api.Text:
		return quoted(n.Text)
	case api.Symbol:
		return n.Text
	case api.Number:
		return number(n.N, n.D)
	case api.Truth:
		return truth(n.N)
	case api.Char:
		return char(n.N)
	}
	return "()"
}

func quoted(text string) string {
	var out strings.Builder
	out.WriteByte('"')
	for i := range len(text) {
		switch c := text[i]; c {
		case '\\', '"':
			out.WriteByte('\\')
			out.WriteByte(c)
		case '\n':
			out.WriteString("\\n")
		case '\t':
			out.WriteString("\\t")
		default:
			out.WriteByte(c)
		}
	}
	out.WriteByte('"')
	return out.String()
}

func number(n, d int) string {
	if d == 1 {
		return strconv.Itoa(n)
	}
	return strconv.Itoa(n) + "/" + strconv.Itoa(d)
}

func truth(n int) string {
	if n == 1 {
		return "#t"
	}
	return "#f"
}

func char(code int) string {
	if name, ok := token.NameOf(code); ok {
		return "#\\" + name
	}
	return "#\\" + string(rune(code))
}
