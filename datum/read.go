package datum

import (
	"looptext/api"
	"looptext/token"
)

// Fault is what is wrong, and where.
type Fault struct {
	Errno api.Errno
	At    int
}

// reader goes through the tokens of a text from the left.
type reader struct {
	tokens  []token.Token
	next    int
	deepest int
	labels  map[int]*Label // those that were put so far
}

// place is where a datum stands.
type place struct {
	depth  int
	passed bool     // it is passed over, or is within what is
	ahead  []*Label // those put at this very datum
}

// Read reads the first datum, at most so deep, and tells the place behind its
// last token. The tokens are those that token.Gather gives.
func Read(tokens []token.Token, deepest int) (Datum, int, *Fault) {
	r := &reader{tokens: tokens, deepest: deepest, labels: map[int]*Label{}}
	d, fault := r.datum(place{})
	if fault != nil {
		return nil, 0, fault
	}
	return d, r.tokens[r.next-1].End, nil
}

func (r *reader) datum(p place) (Datum, *Fault) {
	t, fault := r.take(p)
	if fault != nil {
		return nil, fault
	}
	return r.datumFrom(t, p)
}

// take is the next token that is not passed over.
func (r *reader) take(p place) (token.Token, *Fault) {
	for {
		t := r.tokens[r.next]
		switch t.Kind {
		case token.End:
			return t, &Fault{api.ErrEnd, t.At}
		case token.Wrong:
			return t, &Fault{api.ErrText, t.At}
		}
		r.next++
		if t.Kind != token.Pass {
			return t, nil
		}
		if _, fault := r.datum(place{depth: p.depth, passed: true}); fault != nil {
			return t, fault
		}
	}
}

// datumFrom reads the datum that begins with the token t, which was taken.
func (r *reader) datumFrom(t token.Token, p place) (Datum, *Fault) {
	switch t.Kind {
	case token.Close, token.Dot:
		return nil, &Fault{api.ErrText, t.At}
	case token.Put:
		return r.put(t, p)
	case token.Ask:
		return r.ask(t, p)
	case token.Open, token.OpenVector, token.Quote:
		return r.holder(t, p)
	}
	return atom(t)
}

func (r *reader) holder(t token.Token, p place) (Datum, *Fault) {
	in, fault := r.deeper(t, p)
	if fault != nil {
		return nil, fault
	}
	switch t.Kind {
	case token.OpenVector:
		return r.vector(in)
	case token.Quote:
		return r.quote(in)
	}
	return r.list(in)
}

// deeper is the place within what the token t begins at p.
func (r *reader) deeper(t token.Token, p place) (place, *Fault) {
	if p.depth == r.deepest {
		return place{}, &Fault{api.ErrDeep, t.At}
	}
	return place{depth: p.depth + 1, passed: p.passed}, nil
}

func (r *reader) list(in place) (Datum, *Fault) {
	var data []Datum
	for {
		t, fault := r.take(in)
		if fault != nil {
			return nil, fault
		}
		if t.Kind == token.Close {
			return chain(data, Nil{}), nil
		}
		if t.Kind == token.Dot && len(data) > 0 {
			return r.dotted(data, in)
		}
		d, fault := r.datumFrom(t, in)
		if fault != nil {
			return nil, fault
		}
		data = append(data, d)
	}
}

// dotted reads what stands behind the dot of a list that begins with data.
func (r *reader) dotted(data []Datum, in place) (Datum, *Fault) {
	rest, fault := r.datum(in)
	if fault != nil {
		return nil, fault
	}
	t, fault := r.take(in)
	if fault != nil {
		return nil, fault
	}
	if t.Kind != token.Close {
		return nil, &Fault{api.ErrText, t.At}
	}
	return chain(data, rest), nil
}

func (r *reader) vector(in place) (Datum, *Fault) {
	v := &Vector{}
	for {
		t, fault := r.take(in)
		if fault != nil {
			return nil, fault
		}
		if t.Kind == token.Close {
			return v, nil
		}
		if len(v.Data) == api.MaxSubs {
			return nil, &Fault{api.ErrText, t.At}
		}
		d, fault := r.datumFrom(t, in)
		if fault != nil {
			return nil, fault
		}
		v.Data = append(v.Data, d)
	}
}

func (r *reader) quote(in place) (Datum, *Fault) {
	d, fault := r.datum(in)
	if fault != nil {
		return nil, fault
	}
	return chain([]Datum{Symbol{"quote"}, d}, Nil{}), nil
}

func atom(t token.Token) (Datum, *Fault) {
	switch t.Kind {
	case token.Text:
		return &Text{t.Text}, nil
	case token.Char:
		return Char{t.N}, nil
	case token.Truth:
		return Truth{t.N}, nil
	case token.Symbol:
		return Symbol{t.Text}, nil
	}
	if t.Fault != api.OK {
		return nil, &Fault{t.Fault, t.At}
	}
	return Number{t.N, t.D}, nil
}
