package datum

import (
	"testing"

	"looptext/api"
	"looptext/token"
)

func TestReadTellsTypes(t *testing.T) {
	for text, is := range map[string]func(Datum) bool{
		"()":    func(d Datum) bool { return d == Nil{} },
		"a":     func(d Datum) bool { return d == Symbol{"a"} },
		"6/4":   func(d Datum) bool { return d == Number{3, 2} },
		"#t":    func(d Datum) bool { return d == Truth{1} },
		"#\\a":  func(d Datum) bool { return d == Char{97} },
		"\"a\"": func(d Datum) bool { x, ok := d.(*Text); return ok && x.Bytes == "a" },
		"#(a)":  func(d Datum) bool { x, ok := d.(*Vector); return ok && len(x.Data) == 1 },
		"(a)":   func(d Datum) bool { x, ok := d.(*Pair); return ok && x.Rest == Nil{} },
		"#0=a":  func(d Datum) bool { return d == Symbol{"a"} },
	} {
		d, end, fault := Read(token.Gather(text+" x"), 1)
		if fault != nil || end != len(text) || !is(d) {
			t.Errorf("Read(%q) = %#v, %d, %v", text, d, end, fault)
		}
	}
}

func TestReadTellsFaults(t *testing.T) {
	for text, want := range map[string]Fault{
		"(a": {api.ErrEnd, 2}, "(a \\": {api.ErrText, 3}, "1000001": {api.ErrNumber, 0}, "#0#": {api.ErrLabel, 0}, "(())": {api.ErrDeep, 1},
	} {
		d, end, fault := Read(token.Gather(text), 1)
		if d != nil || end != 0 || fault == nil || *fault != want {
			t.Errorf("Read(%q) = %v, %d, %v", text, d, end, fault)
		}
	}
}

func TestGraphOfLoops(t *testing.T) {
	p := &Pair{}
	v := &Vector{[]Datum{p, &Label{&Label{p}}}}
	p.First, p.Rest = v, &Label{v}
	nodes := Graph(p)
	if len(nodes) != 2 || nodes[0].Subs[0] != 1 || nodes[0].Subs[1] != 1 || nodes[1].Subs[0] != 0 || nodes[1].Subs[1] != 0 {
		t.Errorf("got %+v", nodes)
	}
}

func TestMeant(t *testing.T) {
	p := &Pair{Nil{}, Nil{}}
	for _, want := range []Datum{p, Nil{}, Symbol{"a"}, Number{1, 2}, &Vector{}} {
		l := &Label{want}
		for _, d := range []Datum{want, l, &Label{l}, &Label{&Label{l}}} {
			if Meant(d) != want {
				t.Errorf("Meant(%#v) = %#v", d, Meant(d))
			}
		}
	}
}
