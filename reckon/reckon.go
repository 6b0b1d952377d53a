// Package reckon reckons what was read.
package reckon

import (
	"looptext/api"
	"looptext/datum"
)

type reckoner struct {
	// known is what came of the lists that were reckoned so far. Those that
	// hold one another twice and more stand in too many places to reckon them
	// in each.
	known map[*datum.Pair]datum.Datum
}

// Reckon is what comes of a datum in which nothing holds itself.
func Reckon(d datum.Datum) (datum.Datum, api.Errno) {
	r := &reckoner{known: map[*datum.Pair]datum.Datum{}}
	return r.reckon(d)
}

func (r *reckoner) reckon(d datum.Datum) (datum.Datum, api.Errno) {
	switch x := datum.Meant(d).(type) {
	case *datum.Pair:
		return r.once(x)
	case datum.Number, datum.Truth, datum.Char, *datum.Text:
		return x, api.OK
	}
	return nil, api.ErrOp
}

// once need not know errors: at the first one reckoning ends.
func (r *reckoner) once(p *datum.Pair) (datum.Datum, api.Errno) {
	if result, ok := r.known[p]; ok {
		return result, api.OK
	}
	result, errno := r.list(p)
	if errno != api.OK {
		return nil, errno
	}
	r.known[p] = result
	return result, api.OK
}

func (r *reckoner) list(p *datum.Pair) (datum.Datum, api.Errno) {
	head, held, ok := parts(p)
	if !ok || !canHold(head, len(held)) {
		return nil, api.ErrOp
	}
	switch head {
	case "quote":
		return datum.Meant(held[0]), api.OK
	case "if":
		return r.choice(held[0], held[1], held[2])
	}
	numbers, errno := r.numbers(held)
	if errno != api.OK {
		return nil, errno
	}
	if head == "=" || head == "<" {
		return compared(head, numbers[0], numbers[1]), api.OK
	}
	return total(head, numbers)
}

func (r *reckoner) choice(c, x, y datum.Datum) (datum.Datum, api.Errno) {
	result, errno := r.reckon(c)
	if errno != api.OK {
		return nil, errno
	}
	if result == (datum.Truth{N: 0}) {
		return r.reckon(y)
	}
	return r.reckon(x)
}
