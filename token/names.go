package token

// CharName is a character that has a name.
type CharName struct {
	Name string
	Code int
}

// charNames is filled at the start and only read from then on. No token hangs
// on it: what is read and written is worked out by NameOf.
var charNames [6]CharName

func init() {
	charNames = [6]CharName{
		{"space", 32},
		{"newline", 10},
		{"tab", 9},
		{"nul", 0},
		{"delete", 127},
		{"escape", 27},
	}
}

// CharNames is a copy of the table of all characters that have a name.
func CharNames() [6]CharName { return charNames }

// NameOf is the name of a character that has one.
func NameOf(code int) (string, bool) {
	switch code {
	case 32:
		return "space", true
	case 10:
		return "newline", true
	case 9:
		return "tab", true
	case 0:
		return "nul", true
	case 127:
		return "delete", true
	case 27:
		return "escape", true
	}
	return "", false
}

// codeOf is the character that has a name. It asks for the names of all
// characters, so that each name is told by one function only.
func codeOf(name string) (int, bool) {
	for code := range 128 {
		if own, named := NameOf(code); named && own == name {
			return code, true
		}
	}
	return 0, false
}
