package datum

import (
	"slices"

	"looptext/api"
	"looptext/token"
)

// put reads the datum at which the label t is put.
func (r *reader) put(t token.Token, p place) (Datum, *Fault) {
	if p.passed || r.labels[t.N] != nil {
		return nil, &Fault{api.ErrLabel, t.At}
	}
	in, fault := r.deeper(t, p)
	if fault != nil {
		return nil, fault
	}
	l := &Label{}
	r.labels[t.N] = l
	in.ahead = append(p.ahead, l)
	d, fault := r.datum(in)
	if fault != nil {
		return nil, fault
	}
	l.Of = d
	return d, nil
}

// ask is the label t itself. It never stands, not even through others, for
// itself: those put at the very datum are refused, all others came ahead.
func (r *reader) ask(t token.Token, p place) (Datum, *Fault) {
	l := r.labels[t.N]
	if p.passed || l == nil || slices.Contains(p.ahead, l) {
		return nil, &Fault{api.ErrLabel, t.At}
	}
	return l, nil
}
