// Package datum reads data from tokens, and numbers them as a graph.
package datum

// Datum is what was read: one of the types below.
type Datum interface{ isDatum() }

// Those that can stand in several places are told apart by their pointers.
type (
	Pair   struct{ First, Rest Datum }
	Vector struct{ Data []Datum }
	Text   struct{ Bytes string }
)

type (
	Nil    struct{}
	Symbol struct{ Name string }
	Number struct{ N, D int }
	Truth  struct{ N int }
	Char   struct{ Code int }
)

// Label stands for the datum at which it was put. That one is known only when
// it was read to its end, and the label may be asked for within it.
type Label struct{ Of Datum }

func (*Pair) isDatum()   {}
func (*Vector) isDatum() {}
func (*Text) isDatum()   {}
func (Nil) isDatum()     {}
func (Symbol) isDatum()  {}
func (Number) isDatum()  {}
func (Truth) isDatum()   {}
func (Char) isDatum()    {}
func (*Label) isDatum()  {}

// Meant is the datum for which a label stands, or else d itself.
func Meant(d Datum) Datum {
	for {
		l, ok := d.(*Label)
		if !ok {
			return d
		}
		d = l.Of
	}
}

// chain is the list of data that ends in rest.
func chain(data []Datum, rest Datum) Datum {
	for i := len(data) - 1; i >= 0; i-- {
		rest = &Pair{First: data[i], Rest: rest}
	}
	return rest
}
