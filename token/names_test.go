package token

import "testing"

// The names as the document tells them.
var documentNames = map[string]int{"space": 32, "newline": 10, "tab": 9, "nul": 0, "delete": 127, "escape": 27}

func TestTheTableOfNames(t *testing.T) {
	table := CharNames()
	if len(table) != len(documentNames) {
		t.Errorf("%d names in the table", len(table))
	}
	told := map[string]int{}
	for _, c := range table {
		told[c.Name]++
		if code, ok := documentNames[c.Name]; !ok || code != c.Code || told[c.Name] > 1 {
			t.Errorf("in the table: %q, %d", c.Name, c.Code)
		}
	}
	table[0].Name = "spoilt"
	if CharNames()[0].Name == "spoilt" {
		t.Error("the table itself is handed out")
	}
}

func TestTheFunctionOfNames(t *testing.T) {
	for name, code := range documentNames {
		if got, ok := codeOf(name); got != code || !ok {
			t.Errorf("codeOf(%q) = %d, %t", name, got, ok)
		}
		if got, ok := NameOf(code); got != name || !ok {
			t.Errorf("NameOf(%d) = %q, %t", code, got, ok)
		}
	}
	for _, name := range []string{"", "altmode", "Space", "spac", "spaces", "null", "a"} {
		if code, ok := codeOf(name); ok || code != 0 {
			t.Errorf("codeOf(%q) = %d, %t", name, code, ok)
		}
	}
}

func TestTheTableAndTheFunctionTellTheSame(t *testing.T) {
	byTable := map[int]string{}
	for _, c := range CharNames() {
		byTable[c.Code] = c.Name
	}
	for code := -300; code <= 300; code++ {
		want, named := byTable[code]
		if name, ok := NameOf(code); name != want || ok != named {
			t.Errorf("NameOf(%d) = %q, %t; in the table: %q", code, name, ok, want)
		}
	}
}

// What is read and written is worked out by the function: without the table
// nothing of it changes.
func TestNoTokenHangsOnTheTable(t *testing.T) {
	whole := charNames
	defer func() { charNames = whole }()
	charNames = [6]CharName{{"altmode", 27}, {"space", 7}}
	for name, code := range documentNames {
		if got := Gather("#\\" + name)[0]; got.Kind != Char || got.N != code {
			t.Errorf("#\\%s is read as %+v", name, got)
		}
		if got, _ := NameOf(code); got != name {
			t.Errorf("NameOf(%d) = %q", code, got)
		}
	}
	if got := Gather("#\\altmode")[0]; got.Kind != Wrong {
		t.Errorf("#\\altmode is read as %+v", got)
	}
	if IsChar(7) {
		t.Error("a character by the table alone")
	}
}
