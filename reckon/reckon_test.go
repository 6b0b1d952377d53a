package reckon

import (
	"testing"

	"looptext/api"
	"looptext/datum"
	"looptext/ratio"
	"looptext/token"
)

func read(t *testing.T, text string) datum.Datum {
	t.Helper()
	d, _, fault := datum.Read(token.Gather(text), api.MaxDepth)
	if fault != nil {
		t.Fatalf("%q: %v", text, *fault)
	}
	return d
}

func TestReckonGivesData(t *testing.T) {
	for text, want := range map[string]datum.Datum{
		"6/4": datum.Number{N: 3, D: 2}, "(+ 1/2 1/6)": datum.Number{N: 2, D: 3}, "(= 1 1)": datum.Truth{N: 1}, "(< 1 1)": datum.Truth{N: 0}, "'a": datum.Symbol{Name: "a"}, "'()": datum.Nil{}, "#\\a": datum.Char{Code: 97},
	} {
		if got, errno := Reckon(read(t, text)); got != want || errno != api.OK {
			t.Errorf("Reckon of %s = %v, error %d", text, got, errno)
		}
	}
	for text, want := range map[string]api.Errno{"a": api.ErrOp, "(/ 0)": api.ErrZero, "(+ 1000000 1)": api.ErrNumber} {
		if got, errno := Reckon(read(t, text)); got != nil || errno != want {
			t.Errorf("Reckon of %s = %v, error %d", text, got, errno)
		}
	}
}

// What is given is the thing itself, never a label that stands for it.
func TestReckonGivesTheThingItself(t *testing.T) {
	quoted := &datum.Pair{First: datum.Symbol{Name: "a"}, Rest: datum.Nil{}}
	for _, held := range []datum.Datum{quoted, &datum.Label{Of: quoted}, &datum.Label{Of: &datum.Label{Of: quoted}}} {
		list := &datum.Pair{First: datum.Symbol{Name: "quote"}, Rest: &datum.Pair{First: held, Rest: datum.Nil{}}}
		if got, errno := Reckon(&datum.Label{Of: list}); got != datum.Datum(quoted) || errno != api.OK {
			t.Errorf("got %v, error %d", got, errno)
		}
	}
}

func TestParts(t *testing.T) {
	for text, many := range map[string]int{"(a)": 0, "(a b)": 1, "(a b c d)": 3, "(a . (b . (c)))": 2, "(a . ())": 0, "'b": 1, "(a #0=(b) . #0#)": 2} {
		_, held, ok := parts(read(t, text).(*datum.Pair))
		if len(held) != many || !ok {
			t.Errorf("parts of %s: %d, %t", text, len(held), ok)
		}
	}
	for _, text := range []string{"(a . b)", "(a b . #(c))", "(1)", "(() a)", "((a) b)", "(\"a\")"} {
		if head, held, ok := parts(read(t, text).(*datum.Pair)); ok || head != "" || held != nil {
			t.Errorf("parts of %s: %q, %d", text, head, len(held))
		}
	}
}

func TestCanHold(t *testing.T) {
	for head, wants := range map[string][5]bool{
		"+": {true, true, true, true, true}, "*": {true, true, true, true, true}, "-": {false, true, true, true, true}, "/": {false, true, true, true, true},
		"quote": {1: true}, "=": {2: true}, "<": {2: true}, "if": {3: true}, "a": {}, "": {}, "IF": {}, ">": {},
	} {
		for many, want := range wants {
			if canHold(head, many) != want {
				t.Errorf("canHold(%q, %d) = %t", head, many, !want)
			}
		}
	}
}

func TestTotal(t *testing.T) {
	half, third := ratio.Ratio{N: 1, D: 2}, ratio.Ratio{N: 1, D: 3}
	for head, wants := range map[string][2]datum.Number{"+": {{N: 1, D: 2}, {N: 7, D: 6}}, "-": {{N: -1, D: 2}, {N: -1, D: 6}}, "*": {{N: 1, D: 2}, {N: 1, D: 18}}, "/": {{N: 2, D: 1}, {N: 9, D: 2}}} {
		numbers := []ratio.Ratio{half, third, third}
		if got, errno := total(head, numbers[:1]); got != wants[0] || errno != api.OK {
			t.Errorf("%s of one: %v, error %d", head, got, errno)
		}
		if got, errno := total(head, numbers); got != wants[1] || errno != api.OK {
			t.Errorf("%s of three: %v, error %d", head, got, errno)
		}
	}
}
