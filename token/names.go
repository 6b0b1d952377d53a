package token

type charName struct {
	name string
	code int
}

// charNames is filled at the start and only read from then on.
var charNames [6]charName

func init() {
	charNames = [6]charName{
		{"space", 32},
		{"newline", 10},
		{"tab", 9},
		{"nul", 0},
		{"delete", 127},
		{"escape", 27},
	}
}

// codeOf is the character that has a name.
func codeOf(name string) (int, bool) {
	for _, c := range charNames {
		if c.name == name {
			return c.code, true
		}
	}
	return 0, false
}

// NameOf is the name of a character that has one.
func NameOf(code int) (string, bool) {
	for _, c := range charNames {
		if c.code == code {
			return c.name, true
		}
	}
	return "", false
}
